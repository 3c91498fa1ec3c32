import Derived.BigQuiet
import Derived.Test.YtpddjjabfbfifaaGreatG12
namespace Go.Proofs.YtpddjjabfbfifaaGreat
open Go.RowKit
set_option maxHeartbeats 40000000
def qx:List (ByteArray×Pl)->kM->oG×kM
 | [],c=>(cJ,c)
 | (t,p) :: r,c=>if((lz t p c).1.1==0)=true then qx r (lz t p c).2 else lz t p c
def CQ(f:oG)(ws:List (ByteArray×Pl))(c:kM):oG×kM:=if(f.1==0)=true then qx ws c else(f,c)
theorem KL(f:oG)(ws:List (ByteArray×Pl))(c:kM)(i:Nat)(hi:i<ws.length)(h:(f.1==0)=true):CQ f (ws.drop i) c=CQ (lz ws[i].1 ws[i].2 c).1 (ws.drop (i+1)) (lz ws[i].1 ws[i].2 c).2:=by
 unfold CQ;rw[if_pos h,List.drop_eq_getElem_cons hi];rfl
theorem Jn(f:oG)(ws:List (ByteArray×Pl))(c:kM)(i:Nat)(hi:¬i<ws.length)(h:(f.1==0)=true):CQ f (ws.drop i) c=(cJ,c):=by
 unfold CQ;rw[if_pos h,List.drop_of_length_le (by omega)];rfl
theorem CR(f:oG)(ws:List (ByteArray×Pl))(c:kM)(h:(f.1==0)=false):CQ f ws c=(f,c):=by
 unfold CQ;rw[if_neg (by rw[h];simp)]
theorem vD(l:List St)(a:Nat)(fin:Pl)(ws:List (ByteArray×Pl))(i:Nat)(ns:List Nat):(db l a fin i ws ns).1.1<=i+ws.length/\(db l a fin i ws ns).2.length<=ns.length+ws.length:=by
 induction ws generalizing i ns with
 | nil=>simp[db]
 | cons x r ih =>
  obtain⟨t,p⟩:=x;rw[db]
  split
  ·simp
  ·split
   ·simp
   ·split
    ·simp
    ·next n _ _=>have:=ih (i+1) (ns++[n]);simp at this ⊢;omega
theorem fy.mono{c:kM}{N M:Nat}(h:fy c N)(k:N<=M):fy c M:=⟨Nat.le_trans h.names k,Nat.le_trans h.tagged k,Nat.le_trans h.steps k,by have:=h.digits;omega,h.behind⟩
theorem Cf(t:ByteArray)(p:Pl)(f:Nat):∀(j:Nat) (c:kM) (N:Nat),fy c (N+j)->j<=t.size->fy (gK t p f j c).2 (N+t.size):=by
 induction f with
 | zero=>intro j c N h hj;exact h.mono (by omega)
 | succ f ih =>
  intro j c N h hj;rw[gK]
  split
  ·next hlt =>
   have h2:=h.letter (aF t j).toNat { p with col:=p.col+j }
   split
   ·exact ih (j+1) _ N (by rw[<-Nat.add_assoc];exact h2) (by omega)
   ·exact h2.mono (by omega)
  ·exact h.mono (by omega)
theorem wA{c:kM}{N:Nat}(t:ByteArray)(p:Pl)(h:fy c N):fy (lz t p c).2 (N+t.size):=Cf t p _ 0 c N h (Nat.zero_le _)
def jf(ws:List (ByteArray×Pl)):Nat:=(ws.map (fun x=>x.1.size)).sum
theorem Bw(ws:List (ByteArray×Pl))(i:Nat)(hi:i<ws.length):jf (ws.drop i)=ws[i].1.size+jf (ws.drop (i+1)):=by
 have e:=List.drop_eq_getElem_cons hi;simp only[jf];rw[e];rfl
theorem zG(ws:List (ByteArray×Pl))(i:Nat):jf (ws.drop i)<=jf ws:=by
 induction i generalizing ws with
 | zero=>simp
 | succ i ih =>
  cases ws with
  | nil=>simp
  | cons x r=>have:=ih r;simp[jf]at this ⊢;omega
structure vw(s:St):Prop where
 size:jf s.proof<=1000000
 col:∀x∈s.proof,-1000000000<=x.2.col/\x.2.col<=1000000000
def Cw(l:List St)(a:Nat)(s:St):oG×kM :=
 CQ (db l a s.fin 1 (s.proof.drop 1) (bE l a)).1.2 (s.proof.drop (db l a s.fin 1 (s.proof.drop 1) (bE l a)).1.1) ⟨(db l a s.fin 1 (s.proof.drop 1) (bE l a)).2,[],[],0,false⟩
def rK(fin:Pl)(R:oG×kM):List lW×oG :=
 if(R.1.1==0)=true then
  (if R.2.digits=0 then(if R.2.steps.length=0 then([],(1,fin)) else(R.2.steps,cJ)) else([],(4,fin)))
 else([],R.1)
def kj(l:List St)(a:Nat)(s:St):List lW×oG:=rK s.fin (Cw l a s)
def vh(hd:Hd):Nat->Hd
 | 0=>hd
 | _+1=>⟨none,0⟩
theorem IJ{w:World}{hd:Hd}{t:Nat}{cs:List Value}{rows:Nat->dK}(o:aA w hd (rows 0))(n:∀i,aA (w.alloc (.cells cs.toArray t)) ⟨none,0⟩ (rows (i+1))):aR (w.alloc (.cells cs.toArray t)) w.heap.size t cs rows (vh hd):=by
 refine⟨heap_alloc_new _ _,?_,?_,?_⟩
 ·intro i
  cases i with
  | zero=>exact o.moved (fun x hx=>((ab.refl [] w).alloc _).block x (o.lt hx) (by simp))
  | succ i=>exact n i
 ·intro i j hne
  cases i with
  | zero =>
   cases j with
   | zero=>exact absurd rfl hne
   | succ j =>
    have e2:(vh hd (j+1)).blk=none:=rfl;rw[e2,show vh hd 0=hd from rfl]
    cases h:hd.blk with
    | none=>exact Or.inl rfl
    | some x=>right;simp
  | succ i=>left;rfl
 ·intro i
  cases i with
  | zero=>intro e;have:=o.lt e;omega
  | succ i=>intro e;simp[vh,Hd.blk]at e
theorem Jm{hd:Hd}{x:Nat}(h:fm (vh hd) x):hd.blk=some x:=by
 obtain⟨i,hi⟩:=h
 cases i with
 | zero=>exact hi
 | succ i=>simp[vh,Hd.blk]at hi
def vu(p:Pl):Prop:=(-1000000000<=p.col/\p.col<=1000000000)/\Fu p
structure Gd(d:Db)(m:Nat):Prop where
 bnd:lV d m
 now:jf d.proof<=m/\∀x∈d.proof,vu x.2
 sts:∀s∈d.sts,0<s.symbols.length/\s.symbols.length<=m/\s.proof.length<=m/\jf s.proof<=m/\(∀x∈s.proof,vu x.2)/\vu s.fin
theorem Bx(l:List (ByteArray×Pl))(x:ByteArray×Pl):jf (l++[x])=jf l+x.1.size:=by
 simp[jf]
theorem A6{l:List St}{b:Nat}{s:St}(h:s∈jo l b):∃s'∈l,s.symbols=s'.symbols/\s.proof=s'.proof/\s.fin=s'.fin:=by
 unfold jo eK at h;rw[List.mem_mapIdx]at h;obtain⟨i,hi,rfl⟩:=h;refine⟨l[i],List.getElem_mem hi,?_⟩
 split
 ·unfold oJ;split <;> exact⟨rfl,rfl,rfl⟩
 ·exact⟨rfl,rfl,rfl⟩
theorem Gd.take{d:Db}{m:Nat}(h:Gd d m)(x:ByteArray)(p:Pl)(n:Nat)(hx:x.size<=n)(h1:1<=n)(hc:vu p):Gd (aV d x p).2 (m+n):=by
 have hb:=(h.bnd.take x p).mono (m':=m+n) (by omega);have hp:=h.bnd.proof;have hsy:=h.bnd.constants;refine⟨hb,?_,?_⟩
 ·rcases BO d x p with e | e | e
  ·rw[e];exact⟨by have:=h.now.1;omega,h.now.2⟩
  ·rw[e];exact⟨by simp[jf],by simp⟩
  ·rw[e]
   refine⟨by rw[Bx];have:=h.now.1;simp only;omega,fun y hy=>?_⟩
   rcases List.mem_append.1 hy with hy | hy
   ·exact h.now.2 y hy
   ·rw[List.mem_singleton.1 hy];exact hc
 ·rcases zN d x p with e | ⟨y,_,e⟩ | ⟨e,hpos⟩
  ·rw[e]
   intro s hs;obtain⟨a1,a2,a3,a4,a5⟩:=h.sts s hs;exact⟨a1,by omega,by omega,by omega,a5⟩
  ·rw[e]
   intro s hs;obtain⟨s',hs',e1,e2,e3⟩:=A6 hs;obtain⟨a1,a2,a3,a4,a5⟩:=h.sts s' hs';rw[e1,e2,e3];exact⟨a1,by omega,by omega,by omega,a5⟩
  ·rw[e]
   intro s hs
   rcases List.mem_append.1 hs with hs | hs
   ·obtain⟨a1,a2,a3,a4,a5⟩:=h.sts s hs
    exact⟨a1,by omega,by omega,by omega,a5⟩
   ·rw[List.mem_singleton.1 hs]
    exact⟨hpos,by simp only;omega,by simp only;omega,by have:=h.now.1;simp only;omega,h.now.2,hc⟩
theorem Gd.empty:Gd eF 0:=⟨lV.empty,by simp[eF,jf],by simp[eF]⟩
theorem uA(d:ByteArray)(k:Nat)(hk:k<=d.size):(bi d k).1.text.size<=(bi d k).2-k/\(bi d k).1.pos<=d.size:=by
 have a:=xF d k hk;have b:=pE d (skip d k) a.2;unfold bi;simp only
 split
 ·exact⟨by simp[ByteArray.size],b.2⟩
 ·split
  ·exact⟨by simp[ByteArray.size],by simp only;omega⟩
  ·refine⟨?_,by simp only;omega⟩
   simp only[ByteArray.size_extract];omega
theorem tn(d:ByteArray)(k:Nat)(hk:k<=d.size):(aQ d k).1.pos<=d.size:=by
 unfold aQ;generalize d.size-k+1=f
 induction f generalizing k with
 | zero=>simp[bP,hk]
 | succ f ih =>
  have rp:=(uA d k hk).2;have rl:=fw d k hk;rw[bP]
  split
  ·split
   ·exact rp
   ·exact ih (bi d k).2 rl.2.1
  ·split
   ·exact rp
   ·exact rp
theorem Bc(d:ByteArray)(k:Nat)(hk:k<=d.size):(aG (av d k).1=true->(av d k).1.text.size<=(av d k).2-k)/\(av d k).1.pos<=d.size:=by
 unfold av;generalize d.size-k+1=f
 induction f generalizing k with
 | zero=>exact⟨fun h=>by simp[dg,aG]at h,by simp[dg,hk]⟩
 | succ f ih =>
  have rp:=uA d k hk;have rl:=fw d k hk;rw[dg]
  split
  ·have cl:=hQ d (bi d k).2 rl.2.1
   have cp:=tn d (bi d k).2 rl.2.1
   split
   ·have:=ih _ cl.2
    exact⟨fun h=>by have:=this.1 h;omega,this.2⟩
   ·next hc=>exact⟨fun h=>absurd h hc,cp⟩
  ·exact⟨fun _=>rp.1,rp.2⟩
theorem Ga(n s:ByteArray)(p:Nat)(hp:p<=1024):vu (jx n s p):=by
 have h1:=wS s p;have h2:=xm s p;unfold vu Fu jx;simp only;omega
def IA(fs:Fs)(bg:List Bool)(m:Nat)(r:Fy):Prop :=
 r.2.1.length=4/\dx fs r.2.1<=dx fs bg/\∃m',Gd r.2.2 m'/\m'+dx fs r.2.1<=m+dx fs bg
theorem Dy(fs:Fs)(hsz:∀j,j<fs.length->(aj fs j).size<=1024)(x:Nat):(aj fs x).size<=1024:=by
 rcases Nat.lt_or_ge x fs.length with h | h
 ·exact hsz x h
 ·have:(aj fs x).size=0:=by unfold aj;rw[List.getD_eq_getElem?_getD,List.getElem?_eq_none h];rfl
  omega
theorem E4(fs:Fs)(hsz:∀j,j<fs.length->(aj fs j).size<=1024)(f:Nat)(IH:∀j bg d m,bg.length=4->Gd d m->IA fs bg m (b7 fs f j bg d))(x k:Nat)(bg:List Bool)(d:Db)(m:Nat)(hk:k<=(aj fs x).size)(hl:bg.length=4)(hB:Gd d m)(hw:aG (av (aj fs x) k).1=true) :
  IA fs bg (m+((av (aj fs x) k).2-k)) (fe fs f x k bg d).1/\(av (aj fs x) k).2<=(fe fs f x k bg d).2/\(fe fs f x k bg d).2<=(aj fs x).size:=by
 have nl:=eN (aj fs x) k hk;have nl2:=nl.2.2 hw;have nw:=Bc (aj fs x) k hk;have h1024:=Dy fs hsz x;unfold fe iO
 split
 ·unfold lC
  split
  ·exact⟨⟨hl,Nat.le_refl _,m,hB,by simp only;omega⟩,Nat.le_refl _,nl.2.1⟩
  ·next j z' he =>
   have h2:=IH j bg d m hl hB;refine⟨⟨h2.1,h2.2.1,?_⟩,?_⟩
   ·obtain⟨m',q1,q2⟩:=h2.2.2;exact⟨m',q1,by simp only;omega⟩
   ·unfold ph at he
    have l1:=eN (aj fs x) (av (aj fs x) k).2 nl.2.1;have l2:=eN (aj fs x) (av (aj fs x) (av (aj fs x) k).2).2 l1.2.1
    repeat' split at he
    all_goals first | (cases he;done) | skip
    injection he with he
    injection he with he1 he2
    subst he2;omega
 ·refine⟨⟨hl,Nat.le_refl _,m+((av (aj fs x) k).2-k),hB.take _ _ _ (nw.1 hw) (by omega) (Ga _ _ _ (by omega)),by simp only;omega⟩,Nat.le_refl _,nl.2.1⟩
theorem IX(fs:Fs)(hsz:∀j,j<fs.length->(aj fs j).size<=1024)(f:Nat):(∀x k bg d m,k<=(aj fs x).size->bg.length=4->Gd d m->(aX fs f x k bg d).2.1.length=4/\dx fs (aX fs f x k bg d).2.1<=dx fs bg/\∃m',Gd (aX fs f x k bg d).2.2 m'/\m'+dx fs (aX fs f x k bg d).2.1<=m+((aj fs x).size-k)+dx fs bg) /\
  (∀j bg d m,bg.length=4->Gd d m->IA fs bg m (b7 fs f j bg d)):=by
 have second:∀f,(∀x k bg d m,k<=(aj fs x).size->bg.length=4->Gd d m->(aX fs f x k bg d).2.1.length=4/\dx fs (aX fs f x k bg d).2.1<=dx fs bg/\∃m',Gd (aX fs f x k bg d).2.2 m'/\m'+dx fs (aX fs f x k bg d).2.1<=m+((aj fs x).size-k)+dx fs bg) ->
   (∀j bg d m,bg.length=4->Gd d m->IA fs bg m (b7 fs f j bg d)):=by
  intro f h j bg d m hl hB;unfold b7
  split
  ·exact⟨hl,Nat.le_refl _,m,hB,Nat.le_refl _⟩
  ·next hb =>
   have hb':bg.getD j true=false:=by simpa using hb
   have hm:=ua fs bg j hl hb';have:=h j 0 (bg.set j true) d m (Nat.zero_le _) (by simpa using hl) hB;refine⟨this.1,by omega,?_⟩;obtain⟨m',q1,q2⟩:=this.2.2;exact⟨m',q1,by omega⟩
 induction f with
 | zero =>
  have h0:∀x k bg d m,k<=(aj fs x).size->bg.length=4->Gd d m->(aX fs 0 x k bg d).2.1.length=4/\dx fs (aX fs 0 x k bg d).2.1<=dx fs bg/\∃m',Gd (aX fs 0 x k bg d).2.2 m'/\m'+dx fs (aX fs 0 x k bg d).2.1<=m+((aj fs x).size-k)+dx fs bg:=by
   intro x k bg d m hk hl hB;exact⟨hl,Nat.le_refl _,m,hB,by simp only[aX];omega⟩
  exact⟨h0,second 0 h0⟩
 | succ f ih =>
  have h1:∀x k bg d m,k<=(aj fs x).size->bg.length=4->Gd d m->(aX fs (f+1) x k bg d).2.1.length=4/\dx fs (aX fs (f+1) x k bg d).2.1<=dx fs bg/\∃m',Gd (aX fs (f+1) x k bg d).2.2 m'/\m'+dx fs (aX fs (f+1) x k bg d).2.1<=m+((aj fs x).size-k)+dx fs bg:=by
   intro x k bg d m hk hl hB
   cases hw:aG (av (aj fs x) k).1 with
   | true =>
    have nl:=eN (aj fs x) k hk;have st:=E4 fs hsz f ih.2 x k bg d m hk hl hB hw;obtain⟨⟨s1,s2,m1,s3,s4⟩,s5,s6⟩:=st
    cases h2:((fe fs f x k bg d).1.1.1==0) with
    | true =>
     rw[vO fs f x k bg d hw h2];obtain⟨r1,r2,m2,r3,r4⟩:=ih.1 x (fe fs f x k bg d).2 (fe fs f x k bg d).1.2.1 (fe fs f x k bg d).1.2.2 m1 s6 s1 s3;exact⟨r1,by omega,m2,r3,by omega⟩
    | false =>
     rw[mC fs f x k bg d hw h2];exact⟨s1,s2,m1,s3,by omega⟩
   | false =>
    by_cases h2:(av (aj fs x) k).1.fin=true/\je d=false
    ·rw[xa fs f x k bg d hw h2.1 h2.2];exact⟨hl,Nat.le_refl _,m,hB,by simp only;omega⟩
    ·rw[tP fs f x k bg d hw h2];exact⟨hl,Nat.le_refl _,m,hB,by simp only;omega⟩
  exact⟨h1,second (f+1) h1⟩
def Lg(l:List St):Prop:=∀s∈l,Fu s.fin/\∀x∈s.proof,Fu x.2
structure LE(l:List St):Prop where
 ok:jH l
 prf:∀i (hi:i<l.length),vw l[i]
 lns:Lg l
theorem GX(fs:Fs)(hsz:∀j,j<fs.length->(aj fs j).size<=1024)(k:Nat):LE (cO fs k).2.2.sts:=by
 obtain⟨_,_,m,hG,hm⟩:=(IX fs hsz 5000).2 k Cu eF 0 rfl Gd.empty;have h4:=xp fs hsz Cu;have hm':m<=4104:=by omega
 have hl:=hG.bnd.sts;unfold cO;refine⟨⟨by omega,fun i hi=>?_,fun i hi=>?_,fun i hi=>?_⟩,fun i hi=>⟨?_,?_⟩,?_⟩
 ·exact(hG.sts _ (List.getElem_mem hi)).1
 ·have:=(hG.sts _ (List.getElem_mem hi)).2.1;omega
 ·have:=(hG.sts _ (List.getElem_mem hi)).2.2.1;omega
 ·have:=(hG.sts _ (List.getElem_mem hi)).2.2.2.1;omega
 ·exact fun x hx=>((hG.sts _ (List.getElem_mem hi)).2.2.2.2.1 x hx).1
 ·exact fun s hs=>⟨(hG.sts s hs).2.2.2.2.2.2,fun x hx=>((hG.sts s hs).2.2.2.2.1 x hx).2⟩
def AG(f:oG):Array Value:=#[.int .i64 f.1,.string f.2.file,.int .i64 f.2.line,.int .i64 f.2.col]
theorem ie{w:World}{r:Nat}{f:oG}(h:w.heap[r]?=some (.cells (AG f) 165 (0,0))) :
  w.cell? ⟨r,0,none⟩=some (.int .i64 f.1)/\w.cell? ⟨r,1,none⟩=some (.string f.2.file)/\w.cell? ⟨r,2,none⟩=some (.int .i64 f.2.line)/\w.cell? ⟨r,3,none⟩=some (.int .i64 f.2.col):=by
 refine⟨?_,?_,?_,?_⟩ <;> (rw[aa h];rfl)
theorem yn(l:List St)(a:Nat)(s:St)(hl:l.length<=10000)(hp:s.proof.length<=10000):fy ⟨(db l a s.fin 1 (s.proof.drop 1) (bE l a)).2,[],[],0,false⟩ 20000:=by
 have h1:=(vD l a s.fin (s.proof.drop 1) 1 (bE l a)).2;have h2:(bE l a).length<=l.length:=mD l a l.length;simp only[List.length_drop]at h1;exact⟨by simp only;omega,by simp,by simp,by simp,by simp⟩
set_option maxRecDepth 100000 in
theorem pt(rb ro a:Nat)(l:List St)(H:Nat->Hd)(w:World)(hr:eu w rb ro l H)(ha:a<l.length)(ok:jH l)(okp:vw l[a]) :
  Calls Tryz.prog 138 #[.pointer (some ⟨rb,ro,none⟩),.int .i64 a] w fun e w'=>∃hd:Hd,
   e=.returned (.tuple #[.slice hd.ao (kj l a l[a]).1.length hd.cap,gu (kj l a l[a]).2])/\aA w' hd (fq (kj l a l[a]).1)/\(∀x,hd.blk=some x->w.heap.size<=x)/\ab [] w w':=by
 have hbw:=hr.lt;have hlen:=ok.len;have hpl:=ok.prfs a ha;have hhl:(bE l a).length<=l.length:=mD l a l.length;obtain⟨AO,HAO⟩:∃AO,Hid ((H (11+2*a)).ao=AO):=⟨_,rfl⟩
 obtain⟨W,hW⟩:∃W,W=w.alloc (.cells #[.int .i64 0,.string ⟨#[]⟩,.int .i64 0,.int .i64 0] 165):=⟨_,rfl⟩
 have K:ab [] w W:=by rw[hW];exact(ab.refl [] _).alloc _
 have BF:W.heap[w.heap.size]?=some (.cells a9 165 (0,0)):=by rw[hW];exact heap_alloc_new _ _
 have HW:=(show Hid _ from hW.symm);clear hW;go_enter Tryz.func138,Tryz.ntmps138
 go_upto_region 1 with fail
 rw[HW.out];go_wp2_with fail;refine(bb rb ro a l H _ (hr.still K) ha).mono ?_;rintro e w1 ⟨rfl,hk1⟩;unfold eI;rw[HAO.out];obtain⟨TB,hTB⟩:∃TB:Array Value,TB=#[.int .i64 l[a].kind,.string l[a].label,.slice (H (10+2*a)).ao l[a].symbols.length (H (10+2*a)).cap,.slice AO l[a].proof.length (H (11+2*a)).cap,.string l[a].fin.file,.int .i64 l[a].fin.line,.int .i64 l[a].fin.col,.int .i64 l[a].til]:=⟨_,rfl⟩
 obtain⟨W2,hW2⟩:∃W2,W2=w1.alloc (.cells #[.int .i64 l[a].kind,.string l[a].label,.slice (H (10+2*a)).ao l[a].symbols.length (H (10+2*a)).cap,.slice AO l[a].proof.length (H (11+2*a)).cap,.string l[a].fin.file,.int .i64 l[a].fin.line,.int .i64 l[a].fin.col,.int .i64 l[a].til] 158):=⟨_,rfl⟩
 have HW2:=(show Hid _ from hW2.symm);have K2:ab [] w W2:=by rw[hW2];exact(K.trans hk1).alloc _
 have BT:W2.heap[w1.heap.size]?=some (.cells TB 158 (0,0)):=by rw[hW2,hTB];exact heap_alloc_new _ _
 have BF2:W2.heap[w.heap.size]?=some (.cells a9 165 (0,0)):=by rw[hW2];exact((ab.refl [] _).alloc _).get (hk1.get BF (by simp)) (by simp)
 have hs1:w.heap.size<w1.heap.size:=by have:=ae (hk1.get BF (by simp));omega
 have hsT:=ae BT;have HTB:=(show Hid _ from hTB);clear hW2 hTB
 go_upto_region 2 with fail
 rw[HW2.out];clear HW HW2 hk1 BF K;have hs2:=K2.size;have hr2:=hr.still K2;go_wp2_with fail;refine(nG rb ro a l H _ hr2 ha ok).mono ?_;rintro e w3 ⟨hh,rfl,hOh,hNh,hk3⟩
 have CM:dq (w3.alloc (.cells #[.slice hh.ao (bE l a).length hh.cap,.slice none 0 0,.slice none 0 0,.int .i64 0,.bool false] 279)) w3.heap.size ⟨bE l a,[],[],0,false⟩ (vh hh):=IJ (cs:=j8 ⟨bE l a,[],[],0,false⟩ (vh hh)) (rows:=uq ⟨bE l a,[],[],0,false⟩) hOh (by
  intro i
  match i with
  | 0=>exact World.ownsRow_nil _ _ _ _
  | 1=>exact World.ownsRow_nil _ _ _ _
  | m+2=>exact World.ownsRow_nil _ _ _ _)
 have K4:ab [] w (w3.alloc (.cells #[.slice hh.ao (bE l a).length hh.cap,.slice none 0 0,.slice none 0 0,.int .i64 0,.bool false] 279)):=(K2.trans hk3).alloc _;have BT4:(w3.alloc (.cells #[.slice hh.ao (bE l a).length hh.cap,.slice none 0 0,.slice none 0 0,.int .i64 0,.bool false] 279)).heap[w1.heap.size]?=some (.cells TB 158 (0,0)):=((ab.refl [] _).alloc _).get (hk3.get BT (by simp)) (by simp);have BF4:(w3.alloc (.cells #[.slice hh.ao (bE l a).length hh.cap,.slice none 0 0,.slice none 0 0,.int .i64 0,.bool false] 279)).heap[w.heap.size]?=some (.cells a9 165 (0,0)):=((ab.refl [] _).alloc _).get (hk3.get BF2 (by simp)) (by simp);have hsb:W2.heap.size<=w3.heap.size:=hk3.size;have hNw:∀x,fm (vh hh) x->W2.heap.size<=x:=fun x hx=>hNh x (Jm hx)
 obtain⟨W4,hW4⟩:∃W4,W4=w3.alloc (.cells #[.slice hh.ao (bE l a).length hh.cap,.slice none 0 0,.slice none 0 0,.int .i64 0,.bool false] 279):=⟨_,rfl⟩
 rw[<-hW4]at CM K4 BT4 BF4;have HW4:=(show Hid _ from hW4.symm);clear hW4 hOh hNh hk3 BT BF2
 go_upto_region 3 with fail
 rw[HW4.out];clear HW4;have okc:=yn l a l[a] hlen hpl;have ble:=(vD l a l[a].fin (l[a].proof.drop 1) 1 (bE l a)).1;have TBK:=vn w3.heap.size ⟨bE l a,[],[],0,false⟩ (vh hh) rb ro a l H w W4 CM hr K4 ha ok (by simp only;omega) (by omega) (fun x hx=>Nat.le_trans hs2 (hNw x hx));have HCR:Hid (Cw l a l[a]=CQ (db l a l[a].fin 1 (l[a].proof.drop 1) (bE l a)).1.2 (l[a].proof.drop (db l a l[a].fin 1 (l[a].proof.drop 1) (bE l a)).1.1) ⟨(db l a l[a].fin 1 (l[a].proof.drop 1) (bE l a)).2,[],[],0,false⟩):=rfl;simp only at TBK;have hbs:=aR.lt CM;simp only[List.length_drop]at ble;generalize db l a l[a].fin 1 (l[a].proof.drop 1) (bE l a)=BL at *;obtain⟨⟨nx,bf,bp⟩,ns⟩:=BL;simp only at TBK HCR okc ble;go_wp2_with fail;refine TBK.mono ?_;rintro e w5 ⟨rfl,H5,D5,T5⟩;unfold gu
 have K5:=K4.ofP T5.1 (fun x hx=>by
  rcases hx with e | e
  ·omega
  ·exact Nat.le_trans hs2 (hNw x e))
 have n1:¬fm H5 w.heap.size:=T5.fresh _ (by omega) (fun hm=>by have:=hNw _ hm;omega);have n2:¬fm H5 w1.heap.size:=T5.fresh _ (by omega) (fun hm=>by have:=hNw _ hm;omega)
 have nb:∀x,fm H5 x->w.heap.size<=x:=fun x hx=>by
  rcases T5.2 x hx with e | e
  ·exact Nat.le_trans hs2 (hNw x e)
  ·omega
 have BT5:=T5.1.get BT4 (by rintro (e | e);omega;have:=hNw _ e;omega);have BF5:=T5.1.get BF4 (by rintro (e | e);omega;have:=hNw _ e;omega);have n3:¬fm H5 w5.heap.size:=fun hm=>by have:=aR.inlt D5 hm;omega
 have hs5:=T5.1.size;obtain⟨W6,hW6⟩:∃W6,W6=w5.alloc (.cells #[.int .i64 bf,.string bp.file,.int .i64 bp.line,.int .i64 bp.col] 165):=⟨_,rfl⟩
 have k6:ab [] w5 W6:=by rw[hW6];exact(ab.refl [] _).alloc _
 have B96:W6.heap[w5.heap.size]?=some (.cells (AG (bf,bp)) 165 (0,0)):=by rw[hW6];exact heap_alloc_new _ _
 have C6:=dq.still D5 k6;have BT6:=k6.get BT5 (by simp);have BF6:=k6.get BF5 (by simp);have K6:=K5.trans k6;have HW6:=(show Hid _ from hW6.symm);clear hW6
 go_upto_region 4 with fail
 rw[HW6.out];clear HW6 BT4 BF4 BT5 BF5 D5 T5 TBK CM K4 K5 hr2 k6;go_wp2
 go_loopg [10] (l[a].proof.length-nx) (fun gk iv wr=>∃(i:Nat) (c':kM) (H1:Nat->Hd) (fl:oG) (N:Nat),i<=10001/\gk=l[a].proof.length-i/\iv=.int .i64 i/\fy c' N/\N+jf (l[a].proof.drop i)<=1020000/\Hid (Cw l a l[a]=CQ fl (l[a].proof.drop i) c')/\dq wr w3.heap.size c' H1/\(∀x,fm H1 x->w.heap.size<=x)/\ab [] w wr /\
  wr.heap[w.heap.size]?=some (.cells a9 165 (0,0))/\wr.heap[w1.heap.size]?=some (.cells TB 158 (0,0))/\wr.heap[w5.heap.size]?=some (.cells (AG fl) 165 (0,0))/\¬fm H1 w.heap.size/\¬fm H1 w1.heap.size/\¬fm H1 w5.heap.size)
 case atStart=>exact⟨nx,_,H5,(bf,bp),20000,by omega,by omega,rfl,okc,by have:=zG l[a].proof nx;have:=okp.size;omega,HCR,C6,nb,K6,BF6,BT6,B96,n1,n2,n3⟩
 case round =>
  obtain⟨i,c',H1,fl,N,hi,hg,rfl,okc',hN,hR,hC,hb',KW,B1,B2,B9,n1,n2,n3⟩:=hrel;clear C6 nb K6 BF6 BT6 B96;have hr':=hr.still KW;have hs1w:=ae B1;have hs2w:=ae B2;have hs9w:=ae B9;have hOp:=hr'.sts.prfs a l[a] (List.getElem?_eq_getElem ha);obtain⟨f0,f1,f2,f3⟩:=ie B9;have yf:=ak B9;obtain⟨z0,z1,z2,z3⟩:=cD B1;have yz:=ak B1;have hge:((i:Int) ≥ 0):=by omega
  obtain⟨kc0,kc1,kc2,kc3,kc4⟩:=hC.cells;have hcb:=aR.lt hC
  by_cases hlt:i<l[a].proof.length
  ·cases hfl:(fl.1==0)
   ·have t3:wr.cell? ⟨w1.heap.size,3,none⟩=some (.slice AO l[a].proof.length (H (11+2*a)).cap):=by rw[aa B2,HTB.out];rfl
    have HF:Hid (kj l a l[a]=([],fl)):=by show _=_;unfold kj;rw[hR.out,CR _ _ _ hfl];simp[rK,hfl]
    have hfl2:(fl.1 != 0)=true:=by simp[bne,hfl]
    clear hR hOp
    go_upto_region 13 with fail
    go_region
    all_goals go_wp2
    all_goals exact bodyPost_ret (v:=.tuple #[.slice none 0 0,.agg #[.int .i64 fl.1,.string fl.2.file,.int .i64 fl.2.line,.int .i64 fl.2.col]]) (by simp[results,Tryz.results138,go_sem,z0,z1,z2,z3]) rfl ⟨⟨none,0⟩,by rw[HF.out];rfl,by rw[HF.out];exact World.ownsRow_nil _ _ _ _,by intro x hx;simp[Hd.blk]at hx,(jq KW (Nat.le_refl _) _ _ _ _).drew⟩
   ·obtain⟨gp,ep,ecap,ecap2,d0,d1,d2,d3⟩:=hOp.word i hlt
    obtain rfl:AO=some ⟨gp,0,none⟩:=HAO.out.symm.trans ep;have t3:wr.cell? ⟨w1.heap.size,3,none⟩=some (.slice (some ⟨gp,0,none⟩) l[a].proof.length (H (11+2*a)).cap):=by rw[aa B2,HTB.out];rfl
    have hgp:gp<wr.heap.size:=hOp.lt (by unfold Hd.blk;rw[ep];rfl);clear ep hOp;have hcol:=okp.col l[a].proof[i] (List.getElem_mem hlt);have hsz:=Bw l[a].proof i hlt;have HRN:=(show Hid _ from hR.out.trans (KL fl l[a].proof c' i hlt hfl));have OKN:=wA l[a].proof[i].1 l[a].proof[i].2 okc';have TW:=xH w3.heap.size c' H1 l[a].proof[i].1 l[a].proof[i].2.file l[a].proof[i].2.line l[a].proof[i].2.col wr hC N okc' (by omega) hcol;clear hR;generalize l[a].proof[i]=wd at *;obtain⟨t,pf,pl,pc⟩:=wd;simp only at d0 d1 d2 d3 HRN OKN TW hcol hsz;generalize lz t ⟨pf,pl,pc⟩ c'=Q at *;obtain⟨⟨qf,qp⟩,c2⟩:=Q;simp only at HRN OKN TW;unfold gu at TW;clear z0 z1 z2 z3 yz kc0 kc1 kc2 kc3 kc4;go_wp2_with fail;refine TW.mono ?_;rintro e w7 ⟨rfl,H7,D7,T7⟩
    have hT1:∀x,(x=w3.heap.size∨fm H1 x)->w.heap.size<=x:=by
     rintro x (e | e)
     ·omega
     ·exact hb' x e
    have K7:=KW.ofP T7.1 hT1;have q1:=T7.1.get B1 (by rintro (e | e);omega;exact n1 e);have q2:=T7.1.get B2 (by rintro (e | e);omega;exact n2 e);have q9:=T7.1.get B9 (by rintro (e | e);omega;exact n3 e);have m1:=T7.fresh w.heap.size hs1w n1;have m2:=T7.fresh w1.heap.size hs2w n2;have m3:=T7.fresh w5.heap.size hs9w n3;have y9:=ak q9
    have m4:∀x,fm H7 x->w.heap.size<=x:=fun x hx=>by
     rcases T7.2 x hx with e | e
     ·exact hb' x e
     ·omega
    have kk:=fun a0 a1 a2 a3=>ig (w:=w7) (r:=w5.heap.size) a0 a1 a2 a3
    have HKK:=(show Hid _ from kk)
    have HB9:Hid (∀a0 a1 a2 a3,((((w7.setCell ⟨w5.heap.size,0,none⟩ a0).setCell ⟨w5.heap.size,1,none⟩ a1).setCell ⟨w5.heap.size,2,none⟩ a2).setCell ⟨w5.heap.size,3,none⟩ a3).heap[w5.heap.size]?=some (.cells #[a0,a1,a2,a3] 165 (0,0))):=by
     intro a0 a1 a2 a3;rw[ah (ah (ah (ah q9 _ _) _ _) _ _)];rfl
    clear kk hT1 d0 d1 d2 d3 t3 f0 f1 f2 f3 yf;obtain⟨g0,g1,g2,g3⟩:=ie q9;go_wp2
    go_roundg (l[a].proof.length-(i+1))
    case measure=>omega
    case rel=>exact⟨i+1,c2,H7,(qf,qp),N+t.size,by omega,rfl,by go_num,OKN,by omega,HRN.out,aR.kept D7 (HKK.out _ _ _ _) (by simp;omega) (by intro x hx;simp;rintro rfl;exact m3 hx),m4,jq K7 (by omega) _ _ _ _,(HKK.out _ _ _ _).get q1 (by simp;omega),(HKK.out _ _ _ _).get q2 (by simp;omega),HB9.out _ _ _ _,m1,m2,m3⟩
  ·have t3:wr.cell? ⟨w1.heap.size,3,none⟩=some (.slice AO l[a].proof.length (H (11+2*a)).cap):=by rw[aa B2,HTB.out];rfl
   cases hfl:(fl.1==0)
   ·have HF:Hid (kj l a l[a]=([],fl)):=by show _=_;unfold kj;rw[hR.out,CR _ _ _ hfl];simp[rK,hfl]
    have hfl2:(fl.1 != 0)=true:=by simp[bne,hfl]
    clear hR hOp
    go_upto_region 13 with fail
    go_region
    all_goals go_wp2
    all_goals exact bodyPost_ret (v:=.tuple #[.slice none 0 0,.agg #[.int .i64 fl.1,.string fl.2.file,.int .i64 fl.2.line,.int .i64 fl.2.col]]) (by simp[results,Tryz.results138,go_sem,z0,z1,z2,z3]) rfl ⟨⟨none,0⟩,by rw[HF.out];rfl,by rw[HF.out];exact World.ownsRow_nil _ _ _ _,by intro x hx;simp[Hd.blk]at hx,(jq KW (Nat.le_refl _) _ _ _ _).drew⟩
   ·have t4:wr.cell? ⟨w1.heap.size,4,none⟩=some (.string l[a].fin.file):=by rw[aa B2,HTB.out];rfl
    have t5:wr.cell? ⟨w1.heap.size,5,none⟩=some (.int .i64 l[a].fin.line):=by rw[aa B2,HTB.out];rfl
    have t6:wr.cell? ⟨w1.heap.size,6,none⟩=some (.int .i64 l[a].fin.col):=by rw[aa B2,HTB.out];rfl
    have HE:Hid (kj l a l[a]=rK l[a].fin (cJ,c')):=by show _=_;unfold kj;rw[hR.out,Jn _ _ _ _ hlt hfl]
    have hfl2:(fl.1 != 0)=false:=by simp[bne,hfl]
    clear hR hOp
    by_cases hd0:c'.digits=0
    ·have hd1:¬((c'.digits:Int) > 0):=by omega
     by_cases hs0:c'.steps.length=0
     ·have hz1:((c'.steps.length:Int)==0)=true:=by simp[hs0]
      have HF:Hid (kj l a l[a]=([],(1,l[a].fin))):=by show _=_;rw[HE.out];simp[rK,cJ,hd0,hs0]
      obtain⟨W8,hW8⟩:∃W8,W8=(((wr.setCell ⟨w5.heap.size,0,none⟩ (.int .i64 1)).setCell ⟨w5.heap.size,1,none⟩ (.string l[a].fin.file)).setCell ⟨w5.heap.size,2,none⟩ (.int .i64 l[a].fin.line)).setCell ⟨w5.heap.size,3,none⟩ (.int .i64 l[a].fin.col):=⟨_,rfl⟩
      have k8:ab [w5.heap.size] wr W8:=by rw[hW8];exact ig _ _ _ _
      have K8:ab [] w W8:=by rw[hW8];exact jq KW (by omega) _ _ _ _
      have B98:W8.heap[w5.heap.size]?=some (.cells (AG (1,l[a].fin)) 165 (0,0)):=by
       rw[hW8,ah (ah (ah (ah B9 _ _) _ _) _ _)];rfl
      have B18:=k8.get B1 (by simp;omega);have C8:=aR.kept hC k8 (by simp;omega) (by intro x hx;simp;rintro rfl;exact n3 hx);have HW8:=(show Hid _ from hW8.symm);clear hW8 k8
      go_upto_region 12 with fail
      rw[HW8.out];clear HW8 f0 f1 f2 f3 yf z0 z1 z2 z3 yz kc0 kc1 kc2 kc3 kc4 t3 t4 t5 t6 hfl hfl2;obtain⟨f0,f1,f2,f3⟩:=ie B98;have yf:=ak B98;obtain⟨z0,z1,z2,z3⟩:=cD B18;have yz:=ak B18
      go_upto_region 13 with fail
      go_region
      all_goals go_wp2
      all_goals exact bodyPost_ret (v:=.tuple #[.slice none 0 0,.agg #[.int .i64 1,.string l[a].fin.file,.int .i64 l[a].fin.line,.int .i64 l[a].fin.col]]) (by simp[results,Tryz.results138,go_sem,z0,z1,z2,z3]) rfl ⟨⟨none,0⟩,by rw[HF.out];rfl,by rw[HF.out];exact World.ownsRow_nil _ _ _ _,by intro x hx;simp[Hd.blk]at hx,(jq K8 (Nat.le_refl _) _ _ _ _).drew⟩
     ·have hz1:((c'.steps.length:Int)==0)=false:=beq_eq_false_iff_ne.2 (by omega)
      have HF:Hid (kj l a l[a]=(c'.steps,cJ)):=by show _=_;rw[HE.out];simp[rK,cJ,hd0,hs0]
      have HO2:Hid (aA wr (H1 2) (fq c'.steps)):=aR.own hC 2;have HN2:Hid (∀x,(H1 2).blk=some x->w.heap.size<=x/\x≠w.heap.size):=fun x hx=>⟨hb' x ⟨2,hx⟩,fun e=>n1 ⟨2,e ▸ hx⟩⟩
      clear hs0 hd0;go_wp2
      exact bodyPost_ret (v:=.tuple #[.slice (H1 2).ao c'.steps.length (H1 2).cap,.agg #[.int .i64 0,.string ⟨#[]⟩,.int .i64 0,.int .i64 0]]) (by simp[results,Tryz.results138,go_sem,z0,z1,z2,z3]) rfl
       ⟨H1 2,by rw[HF.out];rfl,by rw[HF.out];exact HO2.out.moved (fun x hx=>(ig (r:=w.heap.size) _ _ _ _).block x (HO2.out.lt hx) (by simp;exact(HN2.out x hx).2)),fun x hx=>(HN2.out x hx).1,jq KW (Nat.le_refl _) _ _ _ _⟩
    ·have hd1:(c'.digits:Int) > 0:=by omega
     have HF:Hid (kj l a l[a]=([],(4,l[a].fin))):=by show _=_;rw[HE.out];simp[rK,cJ,hd0]
     obtain⟨W8,hW8⟩:∃W8,W8=(((wr.setCell ⟨w5.heap.size,0,none⟩ (.int .i64 4)).setCell ⟨w5.heap.size,1,none⟩ (.string l[a].fin.file)).setCell ⟨w5.heap.size,2,none⟩ (.int .i64 l[a].fin.line)).setCell ⟨w5.heap.size,3,none⟩ (.int .i64 l[a].fin.col):=⟨_,rfl⟩
     have k8:ab [w5.heap.size] wr W8:=by rw[hW8];exact ig _ _ _ _
     have K8:ab [] w W8:=by rw[hW8];exact jq KW (by omega) _ _ _ _
     have B98:W8.heap[w5.heap.size]?=some (.cells (AG (4,l[a].fin)) 165 (0,0)):=by
      rw[hW8,ah (ah (ah (ah B9 _ _) _ _) _ _)];rfl
     have B18:=k8.get B1 (by simp;omega);have C8:=aR.kept hC k8 (by simp;omega) (by intro x hx;simp;rintro rfl;exact n3 hx);have HW8:=(show Hid _ from hW8.symm);clear hW8 k8
     go_upto_region 10 with fail
     rw[HW8.out];clear HW8 f0 f1 f2 f3 yf z0 z1 z2 z3 yz kc0 kc1 kc2 kc3 kc4 t3 t4 t5 t6 hfl hfl2;obtain⟨f0,f1,f2,f3⟩:=ie B98;have yf:=ak B98;obtain⟨z0,z1,z2,z3⟩:=cD B18;have yz:=ak B18
     go_upto_region 13 with fail
     go_region
     all_goals go_wp2
     all_goals exact bodyPost_ret (v:=.tuple #[.slice none 0 0,.agg #[.int .i64 4,.string l[a].fin.file,.int .i64 l[a].fin.line,.int .i64 l[a].fin.col]]) (by simp[results,Tryz.results138,go_sem,z0,z1,z2,z3]) rfl ⟨⟨none,0⟩,by rw[HF.out];rfl,by rw[HF.out];exact World.ownsRow_nil _ _ _ _,by intro x hx;simp[Hd.blk]at hx,(jq K8 (Nat.le_refl _) _ _ _ _).drew⟩
def xf(s:St):Bool :=
 match s.proof with
 | []=>false
 | (t,_) :: _=>t.toList == [40]
def jW(l:List St)(a:Nat)(s:St):List lW×oG:=if xf s=true then kj l a s else eS l a s.fin s.proof []
set_option maxRecDepth 100000 in
theorem En(rb ro a:Nat)(l:List St)(H:Nat->Hd)(w:World)(hr:eu w rb ro l H)(ha:a<l.length)(ok:jH l)(okp:vw l[a]) :
  Calls Tryz.prog 100 #[.pointer (some ⟨rb,ro,none⟩),.int .i64 a] w fun e w'=>∃hd:Hd,
   e=.returned (.tuple #[.slice hd.ao (jW l a l[a]).1.length hd.cap,gu (jW l a l[a]).2])/\aA w' hd (fq (jW l a l[a]).1)/\(∀x,hd.blk=some x->w.heap.size<=x)/\ab [] w w':=by
 have hbw:=hr.lt;have hpl:=ok.prfs a ha;obtain⟨AO,HAO⟩:∃AO,Hid ((H (11+2*a)).ao=AO):=⟨_,rfl⟩
 obtain⟨W,hW⟩:∃W,W=w.alloc (.cells #[.int .i64 0,.string ⟨#[]⟩,.int .i64 0,.int .i64 0] 165):=⟨_,rfl⟩
 have K:ab [] w W:=by rw[hW];exact(ab.refl [] _).alloc _
 have BF:W.heap[w.heap.size]?=some (.cells a9 165 (0,0)):=by rw[hW];exact heap_alloc_new _ _
 have HW:=(show Hid _ from hW.symm);clear hW;go_enter Tryz.func100,Tryz.ntmps100
 go_upto_region 1 with fail
 rw[HW.out];go_wp2_with fail;refine(bb rb ro a l H _ (hr.still K) ha).mono ?_;rintro e w1 ⟨rfl,hk1⟩;unfold eI;rw[HAO.out];obtain⟨W2,hW2⟩:∃W2,W2=w1.alloc (.cells #[.int .i64 l[a].kind,.string l[a].label,.slice (H (10+2*a)).ao l[a].symbols.length (H (10+2*a)).cap,.slice AO l[a].proof.length (H (11+2*a)).cap,.string l[a].fin.file,.int .i64 l[a].fin.line,.int .i64 l[a].fin.col,.int .i64 l[a].til] 158):=⟨_,rfl⟩
 have HW2:=(show Hid _ from hW2.symm);have K2:ab [] w W2:=by rw[hW2];exact(K.trans hk1).alloc _
 have BT:W2.heap[w1.heap.size]?=some (.cells #[.int .i64 l[a].kind,.string l[a].label,.slice (H (10+2*a)).ao l[a].symbols.length (H (10+2*a)).cap,.slice AO l[a].proof.length (H (11+2*a)).cap,.string l[a].fin.file,.int .i64 l[a].fin.line,.int .i64 l[a].fin.col,.int .i64 l[a].til] 158 (0,0)):=by rw[hW2];exact heap_alloc_new _ _
 have BF2:W2.heap[w.heap.size]?=some (.cells a9 165 (0,0)):=by rw[hW2];exact((ab.refl [] _).alloc _).get (hk1.get BF (by simp)) (by simp)
 have hs1:w.heap.size<w1.heap.size:=by have:=ae (hk1.get BF (by simp));omega
 have hsT:=ae BT;clear hW2
 go_upto_region 2 with fail
 rw[HW2.out];clear HW HW2 hk1 BF K;have t3:W2.cell? ⟨w1.heap.size,3,none⟩=some (.slice AO l[a].proof.length (H (11+2*a)).cap):=by rw[aa BT];rfl
 have hr2:=hr.still K2;have hOp:=hr2.sts.prfs a l[a] (List.getElem?_eq_getElem ha)
 have HTAIL:Hid (∀(w9:World) (fl:oG) (hd:Hd) (st:List lW),ab [] W2 w9->(∀x,hd.blk=some x->W2.heap.size<=x)->aA w9 hd (fq st)->jW l a l[a]=(st,fl) ->
   w9.frozen? ⟨w.heap.size,0,none⟩=false/\w9.frozen? ⟨w.heap.size,1,none⟩=false/\w9.frozen? ⟨w.heap.size,2,none⟩=false/\w9.frozen? ⟨w.heap.size,3,none⟩=false /\
   w9.cell? ⟨w.heap.size,0,none⟩=some (.int .i64 0)/\w9.cell? ⟨w.heap.size,1,none⟩=some (.string ⟨#[]⟩)/\w9.cell? ⟨w.heap.size,2,none⟩=some (.int .i64 0)/\w9.cell? ⟨w.heap.size,3,none⟩=some (.int .i64 0) /\
   ∀a0 a1 a2 a3,Hid (ab [] w ((((w9.setCell ⟨w.heap.size,0,none⟩ a0).setCell ⟨w.heap.size,1,none⟩ a1).setCell ⟨w.heap.size,2,none⟩ a2).setCell ⟨w.heap.size,3,none⟩ a3)/\aA ((((w9.setCell ⟨w.heap.size,0,none⟩ a0).setCell ⟨w.heap.size,1,none⟩ a1).setCell ⟨w.heap.size,2,none⟩ a2).setCell ⟨w.heap.size,3,none⟩ a3) hd (fq st))):=by
  intro w9 fl hd st k9 hn9 ho9 he;have B9:=k9.get BF2 (by simp);obtain⟨z0,z1,z2,z3⟩:=cD B9;have yz:=ak B9;refine⟨yz 0,yz 1,yz 2,yz 3,z0,z1,z2,z3,fun a0 a1 a2 a3=>⟨jq (K2.trans k9) (Nat.le_refl _) _ _ _ _,ho9.moved (fun x hx=>(ig (r:=w.heap.size) _ _ _ _).block x (ho9.lt hx) (by simp;rintro rfl;have:=hn9 _ hx;omega))⟩⟩
 have hsW:=K2.size
 rcases hpr:l[a].proof with _ | ⟨⟨t,p⟩,r⟩
 ·have hl0:l[a].proof.length=0:=by rw[hpr];rfl
  have HF:Hid (jW l a l[a]=eS l a l[a].fin l[a].proof []):=by show _=_;simp[jW,xf,hpr]
  rw[hl0]at t3;have hEz:¬((0:Nat):Int) > 0:=by omega
  clear hpr hOp;go_wp2_with (go_at_call 139;refine(nO rb ro a l H _ hr2 ha ok).mono ?_;rintro e w9 ⟨hd,rfl,o9,n9,k9⟩;obtain⟨y0,y1,y2,y3,z0,z1,z2,z3,HX⟩:=HTAIL.out w9 _ hd _ k9 n9 o9 HF.out;unfold gu)
  exact bodyPost_ret (v:=.tuple #[.slice hd.ao (eS l a l[a].fin l[a].proof []).1.length hd.cap,gu (eS l a l[a].fin l[a].proof []).2]) (by simp[results,Tryz.results100,go_sem,z0,z1,z2,z3,gu]) rfl
   ⟨hd,by rw[HF.out],by rw[HF.out];exact(HX _ _ _ _).out.2,fun x hx=>Nat.le_trans hsW (n9 x hx),(HX _ _ _ _).out.1⟩
 ·have hl0:l[a].proof.length=r.length+1:=by rw[hpr];rfl
  obtain⟨gp,ep,ecap,ecap2,d0,-,-,-⟩:=hOp.word 0 (by omega);obtain rfl:AO=some ⟨gp,0,none⟩:=HAO.out.symm.trans ep;have hgp:gp<W2.heap.size:=hOp.lt (by unfold Hd.blk;rw[ep];rfl);have hlp:((l[a].proof.length:Int) > 0):=by omega
  have hlp2:(0:Int)<l[a].proof.length:=by omega
  have hlp3:0<l[a].proof.length:=by omega
  simp only[hpr,List.getElem_cons_zero]at d0
  cases hc:(t.toList == [40])
  ·have HF:Hid (jW l a l[a]=eS l a l[a].fin l[a].proof []):=by show _=_;simp[jW,xf,hpr,hc]
   clear hpr hOp ep;go_wp2_with (go_at_call 139;refine(nO rb ro a l H _ hr2 ha ok).mono ?_;rintro e w9 ⟨hd,rfl,o9,n9,k9⟩;obtain⟨y0,y1,y2,y3,z0,z1,z2,z3,HX⟩:=HTAIL.out w9 _ hd _ k9 n9 o9 HF.out;unfold gu)
   exact bodyPost_ret (v:=.tuple #[.slice hd.ao (eS l a l[a].fin l[a].proof []).1.length hd.cap,gu (eS l a l[a].fin l[a].proof []).2]) (by simp[results,Tryz.results100,go_sem,z0,z1,z2,z3,gu]) rfl
    ⟨hd,by rw[HF.out],by rw[HF.out];exact(HX _ _ _ _).out.2,fun x hx=>Nat.le_trans hsW (n9 x hx),(HX _ _ _ _).out.1⟩
  ·have HF:Hid (jW l a l[a]=kj l a l[a]):=by show _=_;simp[jW,xf,hpr,hc]
   clear hpr hOp ep;go_wp2_with (go_at_call 138;refine(pt rb ro a l H _ hr2 ha ok okp).mono ?_;rintro e w9 ⟨hd,rfl,o9,n9,k9⟩;obtain⟨y0,y1,y2,y3,z0,z1,z2,z3,HX⟩:=HTAIL.out w9 _ hd _ k9 n9 o9 HF.out;unfold gu)
   exact bodyPost_ret (v:=.tuple #[.slice hd.ao (kj l a l[a]).1.length hd.cap,gu (kj l a l[a]).2]) (by simp[results,Tryz.results100,go_sem,z0,z1,z2,z3,gu]) rfl
    ⟨hd,by rw[HF.out],by rw[HF.out];exact(HX _ _ _ _).out.2,fun x hx=>Nat.le_trans hsW (n9 x hx),(HX _ _ _ _).out.1⟩
theorem Gv:(Tryz.prog.info? 61).map (fun i=>(i.zero,i.size,i.bytes))=some (some (.slice none 0 0),1,24):=by kernel_rfl
structure Ex where
 hd:Hd
 xs:List ByteArray
def tF(e:Ex):Value:=.slice e.hd.ao e.xs.length e.hd.cap
def yA(l:List Ex):List Value:=l.map tF
def fn(l:List Ex):dK:=⟨61,1,l.length,yA l⟩
theorem rg(l:List Ex)(e:Ex):(⟨(fn l).e,(fn l).size,(fn l).n+1,(fn l).xs++[tF e]⟩:dK)=fn (l++[e]):=by simp[fn,yA]
theorem pR(l:List Ex)(k:Nat)(h:k<l.length):(yA l)[k]?=some (tF l[k]):=by simp[yA,h]
theorem jh.keptP{w w':World}{h:Hd}{l:List ByteArray}{P:Nat->Prop}(v:jh w h l)(k:dQ P w w')(hS:∀x,h.blk=some x->¬P x):jh w' h l:=by
 rcases v with v | ⟨g,off,cur,t,e1,e2,e3⟩
 ·exact Or.inl v
 ·exact Or.inr ⟨g,off,cur,t,e1,k.get e2 (hS g (by unfold Hd.blk;rw[e1];rfl)),e3⟩
structure xS(w:World)(b:Nat)(H:Nat->Hd)(e:Ex):Prop where
 view:jh w e.hd e.xs
 adr:∃ad,e.hd.ao=some ad
 far:∀x,e.hd.blk=some x->x<w.heap.size/\x≠b/\¬fm H x
theorem xS.turned{w w':World}{b:Nat}{H H':Nat->Hd}{e:Ex}(h:xS w b H e)(t:aw b w H w' H'):xS w' b H' e:=by
 refine⟨h.view.keptP t.1 (fun x hx=>?_),h.adr,fun x hx=>?_⟩
 ·obtain⟨_,h2,h3⟩:=h.far x hx
  rintro (e | e)
  ·exact h2 e
  ·exact h3 e
 ·obtain⟨h1,h2,h3⟩:=h.far x hx
  exact⟨Nat.lt_of_lt_of_le h1 t.1.size,h2,t.fresh x h1 h3⟩
theorem xS.still{w w':World}{b:Nat}{H:Nat->Hd}{e:Ex}(h:xS w b H e)(k:ab [] w w'):xS w' b H e :=
 ⟨h.view.still k,h.adr,fun x hx=>⟨Nat.lt_of_lt_of_le (h.far x hx).1 k.size,(h.far x hx).2⟩⟩
def nS(vs:List ByteArray)(be:List Ex):Nat->dK
 | 0=>aD vs
 | 1=>fn be
 | _+2=>aD []
def mV(vs:List ByteArray)(be:List Ex)(H:Nat->Hd):List Value:=[.slice (H 0).ao vs.length (H 0).cap,.slice (H 1).ao be.length (H 1).cap]
structure kI(w:World)(b:Nat)(vs:List ByteArray)(be:List Ex)(H:Nat->Hd):Prop where
 bag:aR w b 343 (mV vs be H) (nS vs be) H
 len:be.length=vs.length
 exs:∀e∈be,xS w b H e
theorem kI.still{w w':World}{b:Nat}{vs:List ByteArray}{be:List Ex}{H:Nat->Hd}(h:kI w b vs be H)(k:ab [] w w'):kI w' b vs be H:=⟨h.bag.still k,h.len,fun e he=>(h.exs e he).still k⟩
theorem kI.cells{w:World}{b:Nat}{vs:List ByteArray}{be:List Ex}{H:Nat->Hd}(h:kI w b vs be H) :
  w.cell? ⟨b,0,none⟩=some (.slice (H 0).ao vs.length (H 0).cap)/\w.cell? ⟨b,1,none⟩=some (.slice (H 1).ao be.length (H 1).cap):=⟨h.bag.cell 0,h.bag.cell 1⟩
def Ab(a b:List ByteArray):Bool:=a.map (·.toList)==b.map (·.toList)
theorem IP{a b:List ByteArray}(h:a.length≠b.length):Ab a b=false:=by
 unfold Ab;rw[beq_eq_false_iff_ne];intro e;have:=congrArg List.length e;simp at this;exact h this
theorem Km{a b:List ByteArray}(k:Nat)(h1:k<a.length)(h2:k<b.length)(h:(a[k].toList==b[k].toList)=false):Ab a b=false:=by
 unfold Ab;rw[beq_eq_false_iff_ne]at h ⊢;intro e;have:=congrArg (fun l=>l[k]?) e;simp[h1,h2]at this;exact h this
theorem CA{a b:List ByteArray}(hl:a.length=b.length)(h:∀k (h1:k<a.length) (h2:k<b.length),(a[k].toList==b[k].toList)=true):Ab a b=true:=by
 unfold Ab;rw[beq_iff_eq]
 apply List.ext_getElem
 ·simpa using hl
 ·intro k h1 h2
  simp at h1 h2 ⊢;exact beq_iff_eq.1 (h k h1 h2)
theorem vH(h1 h2:Hd)(a b:List ByteArray)(w:World)(v1:jh w h1 a)(v2:jh w h2 b)(hl1:a.length<=1073741824)(hl2:b.length<=1073741824) :
  Calls Tryz.prog 211 #[.slice h1.ao a.length h1.cap,.slice h2.ao b.length h2.cap] w fun e w'=>e=.returned (.bool (Ab a b))/\ab [] w w':=by
 obtain⟨ao1,cap1⟩:=h1;obtain⟨ao2,cap2⟩:=h2
 by_cases hl:a.length=b.length
 ·have hn:((a.length:Int) != b.length)=false:=by simp[hl]
  by_cases h0:a.length=0
  ·have HM:Hid (Ab a b=true):=CA hl (fun k h1 h2=>by omega)
   have ha0:¬(0:Int)<a.length:=by omega
   go_enter Tryz.func211,Tryz.ntmps211;go_wp2;refine wp_loop_rounds 1 ?_;rw[rounds_succ];go_wp2;go_ret;exact⟨aB HM.out.symm,ab.refl _ _⟩
  ·rcases v1 with rfl | ⟨g,off,cur,t,e1,e2,e3,e4,e5⟩
   ·simp at h0
   rcases v2 with rfl | ⟨g',off',cur',t',f1,f2,f3,f4,f5⟩
   ·simp at hl;simp[hl]at h0
   simp only at e1 f1 e4 e5 f4 f5;subst e1;subst f1;go_enter Tryz.func211,Tryz.ntmps211;go_wp2
   go_loopg [5] a.length (fun gk i wr=>∃k:Nat,k<=a.length/\gk=a.length-k/\i=.int .i64 k/\Hid (∀i (q1:i<a.length) (q2:i<b.length),i<k->(a[i].toList==b[i].toList)=true)/\ab [] w wr)
   case atStart=>exact⟨0,by omega,by omega,rfl,fun i _ _ hi=>by omega,ab.refl _ _⟩
   case round =>
    obtain⟨k,hk,hg,rfl,hall,hK⟩:=hrel
    by_cases hlt:k<a.length
    ·have hlt2:k<b.length:=by omega
     have c1:wr.cell? ⟨g,off+k,none⟩=some (.string a[k]):=(aa (hK.get e2 (by simp)) (off+k)).trans (e3 k a[k] (List.getElem?_eq_getElem hlt));have c2:wr.cell? ⟨g',off'+k,none⟩=some (.string b[k]):=(aa (hK.get f2 (by simp)) (off'+k)).trans (f3 k b[k] (List.getElem?_eq_getElem hlt2));have hli:(k:Int)<a.length:=by omega
     have hli2:(k:Int)<b.length:=by omega
     have HNO:=(show Hid _ from Km k hlt hlt2)
     have HYE:Hid ((a[k].toList==b[k].toList)=true->∀i (q1:i<a.length) (q2:i<b.length),i<k+1->(a[i].toList==b[i].toList)=true):=by
      intro hh i q1 q2 hi
      by_cases e:i=k
      ·subst e;exact hh
      ·exact hall.out i q1 q2 (by omega)
     clear hall e3 f3 e2 f2
     cases hb:(a[k].toList==b[k].toList)
     ·have HM:=(show Hid _ from HNO.out hb)
      have hb':(a[k].toList != b[k].toList)=true:=by simp[bne,hb]
      clear HNO HYE hl
      go_upto_region 6 with fail
      go_quiet (fail)
      go_wp2;go_ret;exact⟨aB HM.out.symm,hK.drewN _⟩
     ·have HM:=(show Hid _ from HYE.out hb)
      have hb':(a[k].toList != b[k].toList)=false:=by simp[bne,hb]
      clear HNO HYE hl
      go_upto_region 6 with fail
      go_quiet (fail)
      go_wp2
      go_roundg (a.length-(k+1))
      case measure=>omega
      case rel=>exact⟨k+1,by omega,rfl,by go_num,HM.out,hK.drewN _⟩
    ·have HM:Hid (Ab a b=true):=CA hl (fun i q1 q2=>hall.out i q1 q2 (by omega))
     clear hall e3 f3;go_wp2;go_ret;exact⟨aB HM.out.symm,hK⟩
 ·have HM:Hid (Ab a b=false):=IP hl
  have hn:((a.length:Int) != b.length)=true:=by simp[bne];omega
  go_enter Tryz.func211,Tryz.ntmps211;go_wp2;go_ret;exact⟨aB HM.out.symm,ab.refl _ _⟩
theorem EU(b:Nat)(vs:List ByteArray)(be:List Ex)(H:Nat->Hd)(x:ByteArray)(w:World)(h:kI w b vs be H)(hl:vs.length<=1073741824) :
  Calls Tryz.prog 278 #[.pointer (some ⟨b,0,none⟩),.string x] w fun e w'=>e=.returned (.int .i64 (nK (oF vs x)))/\w'=w:=by
 obtain⟨c0,c1⟩:=h.cells;have hle:=h.len;have hOV:aA w (H 0) (aD vs):=h.bag.own 0;rw[hle]at c1;go_enter Tryz.func278,Tryz.ntmps278;go_wp2
 go_loopg [5] vs.length (fun g i wr=>∃k:Nat,k<=vs.length/\g=vs.length-k/\i=.int .i64 k/\Hid (∀i,i<k->((vs.getD i ⟨#[]⟩).toList==x.toList)=false)/\wr=w)
 case atStart=>exact⟨0,by omega,by omega,rfl,fun i hi=>by omega,rfl⟩
 case round =>
  obtain⟨k,hk,hg,rfl,hall,rfl⟩:=hrel
  by_cases hlt:k<vs.length
  ·rcases hOV.ways with ⟨_,h0,_⟩ | ⟨g,cur,e1,-,e3,-⟩
   ·have:vs.length=0:=h0
    omega
   ·have c2:=hOV.cell e1 k (.string vs[k]) (qu vs k hlt)
    rw[e1]at c0;have HG:=(show Hid _ from sG vs k hlt);have hcp:vs.length<=(H 0).cap:=e3;generalize vs[k]=y at *
    cases hb:(y.toList==x.toList)
    ·have HN:Hid (∀i,i<k+1->((vs.getD i ⟨#[]⟩).toList==x.toList)=false):=by
      intro i hi
      by_cases e:i=k
      ·subst e;rw[HG.out];exact hb
      ·exact hall.out i (by omega)
     clear HG h hOV;go_wp2
     go_roundg (vs.length-(k+1))
     case measure=>omega
     case rel=>exact⟨k+1,by omega,rfl,by go_num,HN,rfl⟩
    ·have HF:Hid (oF vs x=some k):=oh hlt (by rw[HG.out];exact hb) hall.out
     clear HG h hOV;go_wp2;go_ret;exact⟨am (by rw[HF.out];rfl),rfl⟩
  ·have HF:Hid (oF vs x=none):=mR (fun i hi=>hall.out i (by omega))
   clear h hOV;go_wp2;go_ret;exact⟨am (by rw[HF.out];rfl),rfl⟩
end Go.Proofs.YtpddjjabfbfifaaGreat
