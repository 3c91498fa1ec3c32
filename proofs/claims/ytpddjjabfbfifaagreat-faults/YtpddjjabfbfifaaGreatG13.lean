import Derived.Test.YtpddjjabfbfifaaGreatG12
namespace Go.Proofs.YtpddjjabfbfifaaGreat
open Go.RowKit
set_option maxHeartbeats 40000000
structure hQ(w:World)(l:List St)(H:Nat->Hd):Prop where
  own:aA w (H 6) (gB l H)
  syms:∀i s,l[i]?=some s->aA w (H (10+2*i)) (aD s.symbols)
  prfs:∀i s,l[i]?=some s->aA w (H (11+2*i)) (fA s.proof)
theorem aN.record{w:World}{b t:Nat}{pre post:List Value}{d:Db}{H:Nat->Hd}(h:aN w b t pre post d H):hQ w d.sts H:=by
  refine⟨h.own 6,fun i s hs=>?_,fun i s hs=>?_⟩
  · have:=h.own (10+2*i)
    rw[show 10+2*i=2*i+10 by omega]at this ⊢;have e:aP d H (2*i+10)=aD s.symbols:=by simp[aP,inner,fQ,hs]
    rw[e]at this;exact this
  · have:=h.own (11+2*i)
    rw[show 11+2*i=(2*i+1)+10 by omega]at this ⊢;have q:(2*i+1) % 2=1:=by omega
    have q2:(2*i+1) / 2=i:=by omega
    have e:aP d H ((2*i+1)+10)=fA s.proof:=by simp[aP,inner,qs,q,q2,hs]
    rw[e]at this;exact this
theorem hQ.keptP{w w':World}{l:List St}{H:Nat->Hd}{P:Nat->Prop}(h:hQ w l H)(k:dX P w w')(hP:∀x,fk H x->¬P x):hQ w' l H :=
  ⟨h.own.moved (fun x hx=>k.block x (h.own.lt hx) (hP x ⟨6,hx⟩)),fun i s hs=>(h.syms i s hs).moved (fun x hx=>k.block x ((h.syms i s hs).lt hx) (hP x ⟨_,hx⟩)),fun i s hs=>(h.prfs i s hs).moved (fun x hx=>k.block x ((h.prfs i s hs).lt hx) (hP x ⟨_,hx⟩))⟩
theorem hQ.kept{w w':World}{l:List St}{H:Nat->Hd}{S:List Nat}(h:hQ w l H)(k:ab S w w')(hP:∀x,fk H x->x∉S):hQ w' l H :=
  h.keptP (k.toP (P:=(·∈S)) (fun _ hm _=>hm)) hP
theorem hQ.still{w w':World}{l:List St}{H:Nat->Hd}(h:hQ w l H)(k:ab [] w w'):hQ w' l H:=h.kept k (by simp)
def ld:Nat->Hd:=fun _=>⟨none,0⟩
theorem ru(k:Nat):¬fk ld k:=by rintro ⟨i,h⟩;simp[ld,Hd.blk]at h
def CB:List Bool:=[false,false,false,false]
theorem aN.begin{w:World}{b t:Nat}{pre:List Value}(h:w.heap[b]?=some (.cells (pre++(bU eE ld++[])).toArray t (0,0))):aN w b t pre [] eE ld:=by
  refine⟨h,?_,fun i j _=>Or.inl rfl,fun i e=>by simp[ld,Hd.blk]at e⟩;intro i
  match i with
  | 0=>exact World.ownsRow_nil _ _ _ _
  | 1=>exact World.ownsRow_nil _ _ _ _
  | 2=>exact World.ownsRow_nil _ _ _ _
  | 3=>exact World.ownsRow_nil _ _ _ _
  | 4=>exact World.ownsRow_nil _ _ _ _
  | 5=>exact World.ownsRow_nil _ _ _ _
  | 6=>exact World.ownsRow_nil _ _ _ _
  | 7=>exact World.ownsRow_nil _ _ _ _
  | 8=>exact World.ownsRow_nil _ _ _ _
  | 9=>exact World.ownsRow_nil _ _ _ _
  | n+10 =>
    have e:aP eE ld (n+10)=if n % 2=0 then aD [] else fA []:=by simp[aP,inner,eE,fQ,qs]
    rw[e]
    split
    · exact World.ownsRow_nil _ _ _ _
    · exact World.ownsRow_nil _ _ _ _
theorem BO(b t o:Nat)(pre post:List Value)(d:Db)(H:Nat->Hd)(w:World)(h:aN w b t pre post d H)(ho:pre.length=o) :
    Calls Tryz.prog 112 #[.pointer (some ⟨b,o,none⟩)] w fun e w'=>e=.returned (.agg #[.slice (H 6).ao d.sts.length (H 6).cap,.slice (H 7).ao d.rbl.length (H 7).cap])/\ab [] w w':=by
  obtain⟨q0,q1,q2,q3,q4,q5,q6,q7,q8,q9,q10,q11,q12⟩:=h.cells o ho;clear q0 q1 q2 q3 q4 q5 q8 q9 q10 q11 q12;have hbw:=h.lt;go_enter Tryz.func112,Tryz.ntmps112;go_wp2;exact bodyPost_ret (v:=.agg #[.slice (H 6).ao d.sts.length (H 6).cap,.slice (H 7).ao d.rbl.length (H 7).cap]) (by simp[results,Tryz.results112,go_sem]) rfl ⟨rfl,(ab.refl _ _).alloc _⟩
theorem xG(fs:Fs)(hsz:∀j,j<fs.length->(aj fs j).size<=1024)(bg:List Bool):dy fs bg<=4104:=by
  have h:∀j,Iy fs bg j<=1026:=by
    intro j;unfold Iy
    split
    · omega
    · rcases Nat.lt_or_ge j fs.length with h | h
      · have:=hsz j h;omega
      · have:(aj fs j).size=0:=by unfold aj;rw[List.getD_eq_getElem?_getD,List.getElem?_eq_none h];rfl
        omega
  have h0:=h 0;have h1:=h 1;have h2:=h 2;have h3:=h 3;unfold dy;omega
theorem xQ{S:List Nat}{a w:World}{A B:Nat}(h:ab S a w)(hA:A∈S∨a.heap.size<=A)(hB:B∈S∨a.heap.size<=B)(u0 u1 v0 v1 v2 v3:Value) :
    ab S a ((((((w.setCell ⟨A,0,none⟩ u0).setCell ⟨A,1,none⟩ u1).setCell ⟨B,0,none⟩ v0).setCell ⟨B,1,none⟩ v1).setCell ⟨B,2,none⟩ v2).setCell ⟨B,3,none⟩ v3) :=
  (((((h.setCell hA _).setCell hA _).setCell hB _).setCell hB _).setCell hB _).setCell hB _
def cN(fs:Fs)(root:Nat):Gi:=bZ fs 5000 root CB eE
set_option maxRecDepth 100000 in
theorem FH(v tt k0:Nat)(fs:Fs)(more:List Value)(w:World)
    (ht:bm w v tt fs more) (hk0:k0<fs.length) (hsz:∀j,j<fs.length->(aj fs j).size<=1024) :
    Calls Tryz.prog 79 #[.pointer (some ⟨v,0,none⟩),.int .i64 k0] w fun e w' =>
      (if((cN fs k0).1.1==0)=true then ∃H,e=.returned (.tuple #[.agg #[.slice (H 6).ao (cN fs k0).2.2.sts.length (H 6).cap,.slice (H 7).ao (cN fs k0).2.2.rbl.length (H 7).cap],gx cI])/\hQ w' (cN fs k0).2.2.sts H/\(∀k,fk H k->w.heap.size<=k)
       else e=.returned (.tuple #[.agg #[.slice none 0 0,.slice none 0 0],gx (cN fs k0).1]))/\ab [] w w':=by
  have hvw:=ht.lt
  obtain⟨W,hW⟩:∃W,W=((w.alloc (.cells #[.slice none 0 0,.slice none 0 0] 76)).alloc (.cells #[.int .i64 0,.string ⟨#[]⟩,.int .i64 0,.int .i64 0] 87)).alloc (.cells #[.pointer (some ⟨v,0,none⟩),.bool false,.bool false,.bool false,.bool false,
    .slice none 0 0,.slice none 0 0,.slice none 0 0,.slice none 0 0,.slice none 0 0,.slice none 0 0,.slice none 0 0,.slice none 0 0,.int .i64 0,.string ⟨#[]⟩,.slice none 0 0,.bool false,.slice none 0 0] 200):=⟨_,rfl⟩
  have hK:ab [] w W:=by rw[hW];exact(((ab.refl [] _).alloc _).alloc _).alloc _
  have hA:W.heap[w.heap.size]?=some (.cells #[.slice none 0 0,.slice none 0 0] 76 (0,0)):=by
    rw[hW];exact(((ab.refl [] _).alloc _).alloc _).get (heap_alloc_new _ _) (by simp)
  have hF:W.heap[w.heap.size+1]?=some (.cells aZ 87 (0,0)):=by
    rw[hW];have e:(w.alloc (.cells #[.slice none 0 0,.slice none 0 0] 76)).heap.size=w.heap.size+1:=by simp
    rw[<-e];exact((ab.refl [] _).alloc _).get (heap_alloc_new _ _) (by simp)
  have hD:aN W (w.heap.size+2) 200 (dq v CB) [] eE ld:=by
    refine aN.begin ?_;rw[hW];have e:((w.alloc (.cells #[.slice none 0 0,.slice none 0 0] 76)).alloc (.cells #[.int .i64 0,.string ⟨#[]⟩,.int .i64 0,.int .i64 0] 87)).heap.size=w.heap.size+2:=by simp
    rw[<-e];exact heap_alloc_new _ _
  have hT:bm W v tt fs more:=ht.kept hK (by simp);have HW:=(show Hid _ from hW.symm);have RF:=wF (w.heap.size+2) v tt fs more hsz (by omega) 5000 k0 CB eE ld W 0 hk0 rfl lW.empty (by have:=xG fs hsz CB;omega) (by have:=xG fs hsz CB;omega) hD hT (ru _);unfold iI at RF;have HRF:=(show Hid _ from RF);clear hW RF;have HKN:Hid ((bZ fs 5000 k0 CB eE).2.1.length=4):=((GU fs 5000).2 k0 CB eE 0 rfl lW.empty).1;have ER:Hid (cN fs k0=bZ fs 5000 k0 CB eE):=rfl;rw[ER.out];clear ER;generalize bZ fs 5000 k0 CB eE=R at *;obtain⟨⟨r,pf,pl,pc⟩,bg',d'⟩:=R;simp only[gx]at HRF HKN ⊢;go_enter Tryz.func79,Tryz.ntmps79
  go_upto_region 2 with fail
  rw[HW.out];go_wp2_with fail;refine Calls.mono HRF.out ?_;rintro e w2 ⟨rfl,H2,D2,T2⟩;have hA2:=T2.1.get hA (by rintro (e | e);omega;exact ru _ e);have hF2:=T2.1.get hF (by rintro (e | e);omega;exact ru _ e);have hz2:=T2.1.size;have hWs:=D2.lt
  have HNI:Hid (∀k,fk H2 k->w.heap.size<=k):=fun k hk=>by
    rcases T2.2 k hk with h | h
    · exact absurd h (ru _)
    · have:=hK.size;omega
  have HN2:Hid (∀k,fk H2 k->k≠w.heap.size/\k≠w.heap.size+1/\k≠w.heap.size+2):=fun k hk=>by
    have hz:=ae hF;have hz3:=hD.lt
    rcases T2.2 k hk with h | h
    · exact absurd h (ru _)
    · omega
  have K2:Hid (ab [] w w2):=⟨T2.1.os.trans hK.os,T2.1.tape.trans hK.tape,T2.1.output.trans hK.output,Nat.le_trans hK.size T2.1.size,fun k hk _=>(T2.1.block k (Nat.lt_of_lt_of_le hk hK.size) (by rintro (e | e);omega;exact ru _ e)).trans (hK.block k hk (by simp))⟩;have a0:w2.cell? ⟨w.heap.size,0,none⟩=some (.slice none 0 0):=by rw[aa hA2];rfl
  have a1:w2.cell? ⟨w.heap.size,1,none⟩=some (.slice none 0 0):=by rw[aa hA2];rfl
  obtain⟨z0,z1,z2,z3⟩:=bR hF2;have ya:=ak hA2;have yf:=ak hF2;have hA2w:=ae hA2;have hF2w:=ae hF2
  cases hr:(r==0)
  · have hr':(r != 0)=true:=by simp[bne,hr]
    go_wp2_with fail
    go_region
    all_goals go_wp2
    all_goals exact bodyPost_ret (v:=.tuple #[.agg #[.slice none 0 0,.slice none 0 0],.agg #[.int .i64 r,.string pf,.int .i64 pl,.int .i64 pc]]) (by simp[results,Tryz.results79,go_sem,a0,a1,z0,z1,z2,z3,hA2w,hF2w]) rfl ⟨rfl,((xQ K2.out (Or.inr (Nat.le_refl _)) (Or.inr (Nat.le_succ _)) _ _ _ _ _ _).alloc _).drew⟩
  · have hr':(r != 0)=false:=by simp[bne,hr]
    go_wp2_with fail;refine(BO (w.heap.size+2) 200 5 (dq v bg') [] d' H2 _ (by exact D2.still ((ab.refl [] _).alloc _)) (il v bg' HKN.out)).mono ?_;rintro e w4 ⟨rfl,hk4⟩;have k24:ab [] w2 w4:=((ab.refl [] _).alloc _).trans hk4;have hA4:=k24.get hA2 (by simp);have hF4:=k24.get hF2 (by simp);have K4:Hid (ab [] w w4):=K2.out.trans k24;have S4:Hid (hQ w4 d'.sts H2):=D2.record.still k24;clear a0 a1 z0 z1 z2 z3 ya yf hk4;have a0:w4.cell? ⟨w.heap.size,0,none⟩=some (.slice none 0 0):=by rw[aa hA4];rfl
    have a1:w4.cell? ⟨w.heap.size,1,none⟩=some (.slice none 0 0):=by rw[aa hA4];rfl
    obtain⟨z0,z1,z2,z3⟩:=bR hF4;have ya:=ak hA4;have yf:=ak hF4;go_wp2
    exact bodyPost_ret (v:=.tuple #[.agg #[.slice (H2 6).ao d'.sts.length (H2 6).cap,.slice (H2 7).ao d'.rbl.length (H2 7).cap],.agg #[.int .i64 0,.string ⟨#[]⟩,.int .i64 0,.int .i64 0]]) (by simp[results,Tryz.results79,go_sem,a0,a1,z0,z1,z2,z3]) rfl
      ⟨⟨H2,rfl,S4.out.kept (xQ (ab.refl [w.heap.size,w.heap.size+1] w4) (Or.inl (by simp)) (Or.inl (by simp)) _ _ _ _ _ _) (fun k hk=>by have:=HN2.out k hk;simp;omega),HNI.out⟩,
        xQ K4.out (Or.inr (Nat.le_refl _)) (Or.inr (Nat.le_succ _)) _ _ _ _ _ _⟩
structure ev(w:World)(b o:Nat)(l:List St)(H:Nat->Hd):Prop where
 cell:∃arr t,w.heap[b]?=some (.cells arr t (0,0))/\arr[o]?=some (.slice (H 6).ao l.length (H 6).cap)
 sts:hQ w l H
theorem ev.at{w:World}{b o:Nat}{l:List St}{H:Nat->Hd}(h:ev w b o l H):w.cell? ⟨b,o,none⟩=some (.slice (H 6).ao l.length (H 6).cap):=by
 obtain⟨arr,t,h1,h2⟩:=h.cell;rw[aa h1];exact h2
theorem ev.lt{w:World}{b o:Nat}{l:List St}{H:Nat->Hd}(h:ev w b o l H):b<w.heap.size:=by
 obtain⟨arr,t,h1,h2⟩:=h.cell;exact ae h1
theorem ev.kept{w w':World}{b o:Nat}{l:List St}{H:Nat->Hd}{S:List Nat}(h:ev w b o l H)(k:ab S w w')(hb:b∉S)(hP:∀x,fk H x->x∉S):ev w' b o l H:=by
 obtain⟨arr,t,h1,h2⟩:=h.cell;exact⟨⟨arr,t,k.get h1 hb,h2⟩,h.sts.kept k hP⟩
theorem ev.still{w w':World}{b o:Nat}{l:List St}{H:Nat->Hd}(h:ev w b o l H)(k:ab [] w w'):ev w' b o l H:=h.kept k (by simp) (by simp)
theorem hQ.stmt{w:World}{l:List St}{H:Nat->Hd}(h:hQ w l H)(n:Nat)(hn:n<l.length) :
  ∃g,(H 6).ao=some ⟨g,0,none⟩/\l.length<=(H 6).cap/\(H 6).cap<=9223372036854775807/\w.cell? ⟨g,n*8,none⟩=some (.int .i64 l[n].kind)/\w.cell? ⟨g,n*8+1,none⟩=some (.string l[n].label)/\w.cell? ⟨g,n*8+2,none⟩=some (.slice (H (10+2*n)).ao l[n].symbols.length (H (10+2*n)).cap) /\
  w.cell? ⟨g,n*8+3,none⟩=some (.slice (H (11+2*n)).ao l[n].proof.length (H (11+2*n)).cap)/\w.cell? ⟨g,n*8+4,none⟩=some (.string l[n].fin.file)/\w.cell? ⟨g,n*8+5,none⟩=some (.int .i64 l[n].fin.line) /\
  w.cell? ⟨g,n*8+6,none⟩=some (.int .i64 l[n].fin.col)/\w.cell? ⟨g,n*8+7,none⟩=some (.int .i64 l[n].til):=by
 rcases h.own.ways with ⟨_,h0,_⟩ | ⟨g,cur,e1,e2,e3,e4,-⟩
 ·have:l.length=0:=h0
  omega
 ·have c:=fun j (hj:j<8) v (hv:(Fe l[n] (H (10+2*n)) (H (11+2*n)))[j]?=some v)=>h.own.cell e1 (n*8+j) v ((Cq l H n hn j hj).trans hv)
  exact⟨g,e1,e3,by unfold maxLen at e4;exact e4,c 0 (by omega) _ rfl,c 1 (by omega) _ rfl,c 2 (by omega) _ rfl,c 3 (by omega) _ rfl,c 4 (by omega) _ rfl,c 5 (by omega) _ rfl,c 6 (by omega) _ rfl,c 7 (by omega) _ rfl⟩
theorem dQ(b o:Nat)(l:List St)(H:Nat->Hd)(w:World)(h:ev w b o l H) :
  Calls Tryz.prog 80 #[.pointer (some ⟨b,o,none⟩)] w fun e w'=>e=.returned (.int .i64 l.length)/\w'=w:=by
 have c:=h.at;go_enter Tryz.func80,Tryz.ntmps80;go_wp2;go_ret;exact⟨rfl,rfl⟩
def eG(s:St)(a b:Hd):Value :=
 .agg #[.int .i64 s.kind,.string s.label,.slice a.ao s.symbols.length a.cap,.slice b.ao s.proof.length b.cap,.string s.fin.file,.int .i64 s.fin.line,.int .i64 s.fin.col,.int .i64 s.til]
theorem bb(b o k:Nat)(l:List St)(H:Nat->Hd)(w:World)(h:ev w b o l H)(hk:k<l.length) :
  Calls Tryz.prog 97 #[.pointer (some ⟨b,o,none⟩),.int .i64 k] w fun e w'=>e=.returned (eG l[k] (H (10+2*k)) (H (11+2*k)))/\ab [] w w':=by
 have c:=h.at;have hbw:=h.lt;obtain⟨g,e1,e2,e3,c0,c1,c2,c3,c4,c5,c6,c7⟩:=h.sts.stmt k hk;have hgw:=h.sts.own.lt (k:=g) (by unfold Hd.blk;rw[e1];rfl);rw[e1]at c;unfold eG;clear h;go_enter Tryz.func97,Tryz.ntmps97;go_wp2
 exact bodyPost_ret (v:=.agg #[.int .i64 l[k].kind,.string l[k].label,.slice (H (10+2*k)).ao l[k].symbols.length (H (10+2*k)).cap,.slice (H (11+2*k)).ao l[k].proof.length (H (11+2*k)).cap,.string l[k].fin.file,.int .i64 l[k].fin.line,.int .i64 l[k].fin.col,.int .i64 l[k].til])
  (by simp[results,Tryz.results97,go_sem]) rfl ⟨rfl,(ab.refl _ _).alloc _⟩
def im(l:List St)(n a:Nat):Bool:=match l[n]? with | some s=>decide (n<a)&&(s.til==0||decide (a<s.til)) | none=>false
theorem IK(l:List St)(n a:Nat)(h:n<l.length):im l n a=(decide (n<a)&&(l[n].til==0||decide (a<l[n].til))):=by
 unfold im;rw[List.getElem?_eq_getElem h]
theorem fB(b o k a:Nat)(l:List St)(H:Nat->Hd)(w:World)(h:ev w b o l H)(hk:k<l.length) :
  Calls Tryz.prog 187 #[.pointer (some ⟨b,o,none⟩),.int .i64 k,.int .i64 a] w fun e w'=>e=.returned (.bool (im l k a))/\w'=w:=by
 have c:=h.at;obtain⟨g,e1,e2,e3,c0,c1,c2,c3,c4,c5,c6,c7⟩:=h.sts.stmt k hk;clear c0 c1 c2 c3 c4 c5 c6;rw[e1]at c;have HE:=(show Hid _ from IK l k a hk);generalize l[k].til=t at *;clear h
 by_cases h1:k<a
 ·cases h2:((t:Int)==0)
  ·have h2':(t==0)=false:=by cases t <;> simp at h2 ⊢
   have HT:Hid (im l k a=decide (a<t)):=by show _=_;rw[HE.out,h2'];simp[h1]
   clear HE;go_enter Tryz.func187,Tryz.ntmps187;go_wp2;go_ret;exact⟨aB (by rw[HT.out]),rfl⟩
  ·have h2':(t==0)=true:=by cases t <;> simp at h2 ⊢ <;> omega
   have HT:Hid (im l k a=true):=by show _=_;rw[HE.out,h2'];simp[h1]
   clear HE;go_enter Tryz.func187,Tryz.ntmps187;go_wp2;go_ret;exact⟨aB (by rw[HT.out]),rfl⟩
 ·have HT:Hid (im l k a=false):=by show _=_;rw[HE.out];simp[h1]
  clear HE;go_enter Tryz.func187,Tryz.ntmps187;go_wp2;go_ret;exact⟨aB (by rw[HT.out]),rfl⟩
def mM(l:List St)(lab:ByteArray)(a n:Nat):Bool:=match l[n]? with | some s=>(s.label.toList==lab.toList) && !(s.kind==1)&&im l n a | none=>false
def lo(l:List St)(lab:ByteArray)(a:Nat):Option Nat:=(List.range l.length).find? (mM l lab a)
def nX:Option Nat->Int
 | some n=>n
 | none=>-1
theorem Ha(l:List St)(lab:ByteArray)(a n:Nat)(h:n<l.length):mM l lab a n=((l[n].label.toList==lab.toList) && !(l[n].kind==1)&&im l n a):=by
 unfold mM;rw[List.getElem?_eq_getElem h]
theorem ob{p:Nat->Bool}{n k:Nat}(hk:k<n)(hp:p k=true)(hall:∀i,i<k->p i=false):(List.range n).find? p=some k :=
 List.find?_range_eq_some.2 ⟨hp,by simpa using hk,fun j hj=>by simp[hall j hj]⟩
theorem mU{p:Nat->Bool}{n:Nat}(hall:∀i,i<n->p i=false):(List.range n).find? p=none :=
 List.find?_eq_none.2 (fun i hi=>by simp[hall i (by simpa using hi)])
theorem fT(b o a:Nat)(lab:ByteArray)(l:List St)(H:Nat->Hd)(w:World)(h:ev w b o l H)(hl:l.length<=1073741824) :
  Calls Tryz.prog 185 #[.pointer (some ⟨b,o,none⟩),.string lab,.int .i64 a] w fun e w'=>e=.returned (.int .i64 (nX (lo l lab a)))/\w'=w:=by
 have c:=h.at;go_enter Tryz.func185,Tryz.ntmps185;go_wp2
 go_loopg [7] l.length (fun g i wr=>∃k:Nat,k<=l.length/\g=l.length-k/\i=.int .i64 k/\Hid (∀i,i<k->mM l lab a i=false)/\wr=w)
 case atStart=>exact⟨0,by omega,by omega,rfl,fun i hi=>by omega,rfl⟩
 case round =>
  obtain⟨k,hk,hg,rfl,hall,rfl⟩:=hrel
  by_cases hlt:k<l.length
  ·obtain⟨g,e1,e2,e3,c0,c1,c2,c3,c4,c5,c6,c7⟩:=h.sts.stmt k hlt
   clear c2 c3 c4 c5 c6 c7;rw[e1]at c;have HN:=(show Hid _ from Ha l lab a k hlt);have HH:Hid (ev wr b o l H):=h;generalize l[k].label=lb at *;generalize l[k].kind=kd at *
   have next:Hid (mM l lab a k=false->∀i,i<k+1->mM l lab a i=false):=by
    intro hf i hi
    by_cases e:i=k
    ·subst e;exact hf
    ·exact hall.out i (by omega)
   cases hb:(lb.toList==lab.toList)
   ·have HF:Hid (mM l lab a k=false):=by show _=_;rw[HN.out,hb];simp
    clear HN h;go_wp2
    go_roundg (l.length-(k+1))
    case measure=>omega
    case rel=>exact⟨k+1,by omega,rfl,by go_num,next.out HF.out,rfl⟩
   ·cases hd:(kd==1)
    ·have hd':(kd != 1)=true:=by simp[bne,hd]
     cases hh:im l k a
     ·have HF:Hid (mM l lab a k=false):=by show _=_;rw[HN.out,hh];simp
      clear HN h;go_wp2_with (go_at_call 187;refine(fB b o k a l H _ HH.out hlt).mono ?_;rintro e w1 ⟨rfl,rfl⟩)
      go_roundg (l.length-(k+1))
      case measure=>omega
      case rel=>exact⟨k+1,by omega,rfl,by go_num,next.out HF.out,rfl⟩
     ·have HF:Hid (lo l lab a=some k):=ob hlt (by rw[HN.out,hb,hd,hh];rfl) hall.out
      clear HN h;go_wp2_with (go_at_call 187;refine(fB b o k a l H _ HH.out hlt).mono ?_;rintro e w1 ⟨rfl,rfl⟩);go_ret;exact⟨am (by rw[HF.out];rfl),rfl⟩
    ·have hd':(kd != 1)=false:=by simp[bne,hd]
     have HF:Hid (mM l lab a k=false):=by show _=_;rw[HN.out,hd];simp
     clear HN h;go_wp2
     go_roundg (l.length-(k+1))
     case measure=>omega
     case rel=>exact⟨k+1,by omega,rfl,by go_num,next.out HF.out,rfl⟩
  ·have HF:Hid (lo l lab a=none):=mU (fun i hi=>hall.out i (by omega))
   clear h;go_wp2;go_ret;exact⟨am (by rw[HF.out];rfl),rfl⟩
def jg(w:World)(h:Hd)(l:List ByteArray):Prop :=
 l=[]∨∃g off cur t,h.ao=some ⟨g,off,none⟩/\w.heap[g]?=some (.cells cur t (0,0))/\(∀j x,l[j]?=some x->cur[off+j]?=some (.string x))/\l.length<=h.cap/\h.cap<=9223372036854775807
theorem aA.view{w:World}{h:Hd}{l:List ByteArray}(o:aA w h (aD l)):jg w h l:=by
 rcases o.ways with ⟨_,h0,_⟩ | ⟨g,cur,e1,e2,e3,e4,e5,e6⟩
 ·exact Or.inl (List.eq_nil_of_length_eq_zero h0)
 ·refine Or.inr ⟨g,0,cur,_,e1,e2,?_,e3,by unfold maxLen at e4;exact e4⟩
  intro j x hj;have hjl:j<l.length:=(List.getElem?_eq_some_iff.1 hj).1;have e6':cur.toList.take (l.length*1)=dN l:=e6;have:(dN l)[j]?=some (.string x):=by simp[dN,hj]
  rw[<-e6',List.getElem?_take]at this;rw[Nat.zero_add];simp at this;exact this.2
theorem jg.kept{w w':World}{h:Hd}{l:List ByteArray}{S:List Nat}(v:jg w h l)(k:ab S w w')(hS:∀x,h.blk=some x->x∉S):jg w' h l:=by
 rcases v with v | ⟨g,off,cur,t,e1,e2,e3⟩
 ·exact Or.inl v
 ·exact Or.inr ⟨g,off,cur,t,e1,k.get e2 (hS g (by unfold Hd.blk;rw[e1];rfl)),e3⟩
theorem jg.still{w w':World}{h:Hd}{l:List ByteArray}(v:jg w h l)(k:ab [] w w'):jg w' h l:=v.kept k (by simp)
theorem oh{a b:ByteArray}(h:a=b):Ending.returned (.string a)=.returned (.string b):=by rw[h]
theorem Fu(hd:Hd)(l:List ByteArray)(x:ByteArray)(w:World)(hv:jg w hd l)(hl:l.length<=1073741824) :
  Calls Tryz.prog 218 #[.slice hd.ao l.length hd.cap,.string x] w fun e w'=>e=.returned (.bool (aI l x))/\w'=w:=by
 obtain⟨ao,cap⟩:=hd
 rcases hv with rfl | ⟨g,off,cur,t,e1,e2,e3,e4,e5⟩
 ·clear hl
  go_enter Tryz.func218,Tryz.ntmps218;go_wp2;refine wp_loop_rounds 1 ?_;rw[rounds_succ];go_wp2;go_ret;exact⟨rfl,rfl⟩
 ·simp only at e1
  subst e1;go_enter Tryz.func218,Tryz.ntmps218;go_wp2
  go_loopg [5] l.length (fun g i wr=>∃k:Nat,k<=l.length/\g=l.length-k/\i=.int .i64 k/\Hid (aI l x=aI (l.drop k) x)/\wr=w)
  case atStart=>exact⟨0,by omega,by omega,rfl,rfl,rfl⟩
  case round =>
   obtain⟨k,hk,hg,rfl,hs,rfl⟩:=hrel
   by_cases hlt:k<l.length
   ·have c1:wr.cell? ⟨g,off+k,none⟩=some (.string l[k]):=(aa e2 (off+k)).trans (e3 k l[k] (List.getElem?_eq_getElem hlt))
    cases hb:((l[k]).toList==x.toList)
    ·have HM:Hid (aI l x=aI (l.drop (k+1)) x):=zD l x k hlt hs.out hb
     clear hs e3;go_wp2
     go_roundg (l.length-(k+1))
     case measure=>omega
     case rel=>exact⟨k+1,by omega,rfl,by go_num,HM,rfl⟩
    ·have HM:Hid (aI l x=true):=C9 l x k hlt hs.out hb
     clear hs e3;go_wp2;go_ret;exact⟨aB HM.out.symm,rfl⟩
   ·have HM:Hid (aI l x=false):=yx l x k hlt hs.out
    clear hs e3;go_wp2;go_ret;exact⟨aB HM.out.symm,rfl⟩
def gj(s:St):ByteArray:=s.symbols.getD 0 ⟨#[]⟩
def a8(s:St):ByteArray:=if(s.kind==2)=true/\2<=s.symbols.length then s.symbols.getD 1 ⟨#[]⟩ else⟨#[]⟩
theorem sI(l:List ByteArray)(k:Nat)(h:k<l.length):l.getD k ⟨#[]⟩=l[k]:=by rw[List.getD_eq_getElem?_getD,List.getElem?_eq_getElem h];rfl
theorem xn(s:St)(ha hb:Hd)(w:World)(hv:jg w ha s.symbols)(hl:s.symbols.length<=1073741824) :
  Calls Tryz.prog 191 #[eG s ha hb] w fun e w'=>e=.returned (.string (gj s))/\ab [] w w':=by
 unfold eG;obtain⟨ao,cap⟩:=ha
 rcases hv with e0 | ⟨g,off,cur,t,e1,e2,e3,e4,e5⟩
 ·have HT:Hid (gj s=⟨#[]⟩):=by show _=_;unfold gj;rw[e0];rfl
  rw[e0];simp only[List.length_nil];clear hl e0;go_enter Tryz.func191,Tryz.ntmps191;go_wp2;go_ret;exact⟨oh HT.out.symm,(ab.refl _ _).alloc _⟩
 ·simp only at e1
  subst e1
  by_cases hz:s.symbols.length=0
  ·have hz1:((s.symbols.length:Int)==0)=true:=by simp[hz]
   have HT:Hid (gj s=⟨#[]⟩):=by show _=_;unfold gj;rw[List.eq_nil_of_length_eq_zero hz];rfl
   clear hz;go_enter Tryz.func191,Tryz.ntmps191;go_wp2;go_ret;exact⟨oh HT.out.symm,(ab.refl _ _).alloc _⟩
  ·have hz1:((s.symbols.length:Int)==0)=false:=beq_eq_false_iff_ne.2 (by omega)
   have hz2:0<s.symbols.length:=by omega
   have HT:Hid (gj s=s.symbols[0]):=sI _ _ hz2;have c1:w.cell? ⟨g,off,none⟩=some (.string s.symbols[0]):=(aa e2 off).trans (e3 0 _ (List.getElem?_eq_getElem hz2));have hgw:=ae e2;clear e3 hz;go_enter Tryz.func191,Tryz.ntmps191;go_wp2;go_ret;exact⟨oh HT.out.symm,(ab.refl _ _).alloc _⟩
theorem mW(s:St)(ha hb:Hd)(w:World)(hv:jg w ha s.symbols)(hl:s.symbols.length<=1073741824) :
  Calls Tryz.prog 189 #[eG s ha hb] w fun e w'=>e=.returned (.string (a8 s))/\ab [] w w':=by
 unfold eG
 cases k2:(s.kind==2)
 ·have k2':(s.kind != 2)=true:=by simp[bne,k2]
  have HT:Hid (a8 s=⟨#[]⟩):=by show _=_;unfold a8;rw[k2];simp
  go_enter Tryz.func189,Tryz.ntmps189;go_wp2;go_ret;exact⟨oh HT.out.symm,(ab.refl _ _).alloc _⟩
 ·have k2':(s.kind != 2)=false:=by simp[bne,k2]
  by_cases hz:s.symbols.length<2
  ·have HT:Hid (a8 s=⟨#[]⟩):=by show _=_;unfold a8;rw[if_neg (by omega)]
   go_enter Tryz.func189,Tryz.ntmps189;go_wp2;go_ret;exact⟨oh HT.out.symm,(ab.refl _ _).alloc _⟩
  ·have hz2:1<s.symbols.length:=by omega
   obtain⟨ao,cap⟩:=ha
   rcases hv with e0 | ⟨g,off,cur,t,e1,e2,e3,e4,e5⟩
   ·rw[e0]at hz2;simp at hz2
   ·simp only at e1
    subst e1;have HT:Hid (a8 s=s.symbols[1]):=by show _=_;unfold a8;rw[if_pos ⟨k2,by omega⟩];exact sI _ _ hz2
    have c1:w.cell? ⟨g,off+1,none⟩=some (.string s.symbols[1]):=(aa e2 (off+1)).trans (e3 1 _ (List.getElem?_eq_getElem hz2));have hgw:=ae e2;clear e3;go_enter Tryz.func189,Tryz.ntmps189;go_wp2;go_ret;exact⟨oh HT.out.symm,(ab.refl _ _).alloc _⟩
def rZ(s:St)(syms:List ByteArray):Bool:=if(s.kind==2)=true then aI syms (a8 s) else(s.kind==3)
theorem su(s:St)(ha hb hd:Hd)(l:List ByteArray)(w:World)(hv:jg w ha s.symbols)(hvl:jg w hd l)(hl:s.symbols.length<=1073741824)(hl2:l.length<=1073741824) :
  Calls Tryz.prog 188 #[eG s ha hb,.slice hd.ao l.length hd.cap] w fun e w'=>e=.returned (.bool (rZ s l))/\ab [] w w':=by
 have VA:=fun(w':World) (hv':jg w' ha s.symbols)=>mW s ha hb w' hv' hl
 have HVA:=(show Hid _ from VA);unfold eG at HVA ⊢;clear VA
 cases k2:(s.kind==2)
 ·have HT:Hid (rZ s l=(s.kind==3)):=by show _=_;unfold rZ;rw[k2];simp
  go_enter Tryz.func188,Tryz.ntmps188;go_wp2;go_ret;exact⟨aB (by rw[HT.out]),(ab.refl _ _).alloc _⟩
 ·have HT:Hid (rZ s l=aI l (a8 s)):=by show _=_;unfold rZ;rw[k2];simp
  go_enter Tryz.func188,Tryz.ntmps188;go_wp2_with fail;refine(HVA.out _ (by exact hv.still ((ab.refl [] _).alloc _))).mono ?_;rintro e w2 ⟨rfl,hk2⟩;have hk:=((ab.refl [] w).alloc _).trans hk2;go_wp2_with fail;refine(Fu hd l _ _ (by exact hvl.still hk) hl2).mono ?_;rintro e w3 ⟨rfl,rfl⟩;go_wp2;go_ret;exact⟨aB (by rw[HT.out]),hk⟩
section
structure jH(l:List St):Prop where
 len:l.length<=10000
 pos:∀i (h:i<l.length),0<l[i].symbols.length
 syms:∀i (h:i<l.length),l[i].symbols.length<=10000
 prfs:∀i (h:i<l.length),l[i].proof.length<=10000
theorem ab.grown{w wr w1:World}{b:Option Nat}(K:ab [] w wr)(g:wr.grownBy w1 b)(hb:∀k,b=some k->w.heap.size<=k):ab [] w w1 :=
 ⟨g.os.trans K.os,g.tape.trans K.tape,g.output.trans K.output,Nat.le_trans K.size g.size,fun k hk _=>(g.block k (Nat.lt_of_lt_of_le hk K.size) (fun e=>by have:=hb k e.symm;omega)).trans (K.block k hk (by simp))⟩
theorem tA(w:World)(k l c u:Int)(lab f:ByteArray)(a1 a2:Option Addr)(n1 c1 n2 c2:Nat) :
  (Instr.field 158 (.agg #[.int .i64 k,.string lab,.slice a1 n1 c1,.slice a2 n2 c2,.string f,.int .i64 l,.int .i64 c,.int .i64 u]) 2).run Tryz.prog w=.ok (.slice a1 n1 c1) w:=by kernel_rfl
attribute [local go_sem] tA
def Df(l:List St)(a n:Nat):Bool:=match l[n]? with | some s=>(s.kind==3)&&im l n a | none=>false
theorem Ke(l:List St)(a n:Nat)(h:n<l.length):Df l a n=((l[n].kind==3)&&im l n a):=by
 unfold Df;rw[List.getElem?_eq_getElem h]
def ed(l:List St)(a k:Nat):List ByteArray:=fQ l a++((List.range k).filter (Df l a)).flatMap (fQ l)
def gC(l:List St)(a:Nat):List ByteArray:=ed l a l.length
theorem md(l:List St)(n:Nat)(h:n<l.length):fQ l n=l[n].symbols:=by
 unfold fQ;rw[List.getElem?_eq_getElem h]
theorem rY(l:List St)(a:Nat):ed l a 0=fQ l a:=by unfold ed;rw[List.range_zero];rw[List.filter_nil,List.flatMap_nil,List.append_nil]
theorem uk(l:List St)(a k:Nat)(h:Df l a k=true):ed l a (k+1)=ed l a k++fQ l k:=by
 unfold ed;rw[List.range_succ,List.filter_append];simp[h]
theorem qH(l:List St)(a k:Nat)(h:Df l a k=false):ed l a (k+1)=ed l a k:=by
 unfold ed;rw[List.range_succ,List.filter_append];simp[h]
theorem ta(l:List St)(a k:Nat)(ok:jH l)(ha:a<l.length)(hk:k<=l.length):(ed l a k).length<=10000+k*10000:=by
 induction k with
 | zero =>
  have:=ok.syms a ha;have e:=congrArg List.length (rY l a);have e2:=congrArg List.length (md l a ha);omega
 | succ k ih =>
  have:=ih (by omega)
  cases h:Df l a k with
  | true =>
   have e:=congrArg List.length (uk l a k h);have e2:=congrArg List.length (md l k (by omega));have:=ok.syms k (by omega);rw[List.length_append]at e;omega
  | false =>
   have e:=congrArg List.length (qH l a k h);omega
set_option maxRecDepth 100000 in
theorem uY(b o a:Nat)(l:List St)(H:Nat->Hd)(w:World)(h:ev w b o l H)(ha:a<l.length)(ok:jH l) :
  Calls Tryz.prog 186 #[.pointer (some ⟨b,o,none⟩),.int .i64 a] w fun e w'=>∃hd:Hd,e=.returned (.slice hd.ao (gC l a).length hd.cap)/\aA w' hd (aD (gC l a))/\(∀k,hd.blk=some k->w.heap.size<=k)/\ab [] w w':=by
 obtain⟨i0,hi,hz0,hz1,hz2⟩:=info_parts jI;have hlen:=ok.len;have hbw:=h.lt;go_enter Tryz.func186,Tryz.ntmps186;go_wp2_with fail;refine(bb b o a l H _ h ha).mono ?_;rintro e w1 ⟨rfl,hk1⟩;have h1:=h.still hk1;have O1:=h1.sts.syms a l[a] (List.getElem?_eq_getElem ha);have hp:=ok.pos a ha;have hm:=ok.syms a ha
 rcases O1.ways with ⟨_,h0,_⟩ | ⟨g1,cur1,e1,-⟩
 ·have:l[a].symbols.length=0:=h0
  omega
 ·unfold eG
  rw[e1];have hsrc:Hid (∀j u,(dN l[a].symbols)[j]?=some u->w1.cell? ((⟨g1,0,none⟩:Addr).add j)=some u):=fun j u hj=>by rw[bK];exact O1.cell e1 j u hj
  have ES:Hid (ed l a 0=l[a].symbols):=by show _=_;rw[rY];exact md l a ha
  have HO:Hid (aA w1 ⟨none,0⟩ (aD [])):=World.ownsRow_nil _ _ _ _;clear O1;go_wp2_with (at_builtin;refine aM _ rfl (.tmp 8) (.tmp 12) 61 rfl i0 (.string ⟨#[]⟩) 16 ⟨none,0⟩ (aD []) Tryz.underlying61 hi hz0 hz1 hz2 rfl Nat.one_pos rfl HO.out ⟨g1,0,none⟩ l[a].symbols.length (H (10+2*a)).cap (dN l[a].symbols) rfl ?c0 hsrc.out (ko _) hp ?c3 ?c4 ?_)
  case c0=>simp[dN,aD]
  case c3=>simp only[aD,List.length_nil];unfold maxLen;omega
  case c4=>simp only[aD,List.length_nil];omega
  intro g cap' w2 hw2 hgr hfresh;rw[oe [] l[a].symbols,List.nil_append,<-ES.out]at hw2;have hK2:ab [] w w2:=hk1.grown hgr (by simp[Hd.blk])
  have hg2:w.heap.size<=g:=by
   rcases hfresh with e | e
   ·simp[Hd.blk]at e
   ·exact Nat.le_trans hk1.size e
  have hEl:Hid ((aD []).n+l[a].symbols.length=(ed l a 0).length):=by show _=_;rw[ES.out];simp[aD]
  rw[hEl.out];clear hsrc HO hgr hfresh h1 hk1 e1 hp hm hEl ES;go_wp2
  go_loopg [5,6] l.length (fun gk sv i wr=>∃(k:Nat) (hd:Hd),k<=l.length/\gk=l.length-k/\i=.int .i64 k/\sv=.slice hd.ao (ed l a k).length hd.cap/\aA wr hd (aD (ed l a k))/\(∀x,hd.blk=some x->w.heap.size<=x)/\ab [] w wr)
  case atStart=>exact⟨0,⟨some ⟨g,0,none⟩,cap'⟩,by omega,by omega,rfl,rfl,hw2,by intro x hx;simp[Hd.blk]at hx;omega,hK2⟩
  case round =>
   obtain⟨k,hd,hk,hg,rfl,rfl,hO,hN,hK⟩:=hrel;have hr:=h.still hK;clear hw2 hK2
   by_cases hlt:k<l.length
   ·have hsl:=ta l a k ok ha (by omega)
    have HES:=(show Hid _ from Ke l a k hlt);have hsk:=ok.syms k hlt;have hpk:=ok.pos k hlt;have OK':=hr.sts.syms k l[k] (List.getElem?_eq_getElem hlt)
    rcases OK'.ways with ⟨_,h0,_⟩ | ⟨gk',curk,ek,-⟩
    ·have:l[k].symbols.length=0:=h0
     omega
    ·have SY:Hid (fQ l k=l[k].symbols):=md l k hlt
     cases hkd:(l[k].kind==3)
     ·have HT:Hid (ed l a (k+1)=ed l a k):=qH l a k (by rw[HES.out,hkd];rfl)
      clear HES OK';go_wp2_with (first | (go_at_call 80;refine(dQ b o l H _ (by exact hr)).mono ?_;rintro e w3 ⟨rfl,rfl⟩) | (go_at_call 97;refine(bb b o k l H _ (by exact hr) hlt).mono ?_;rintro e w3 ⟨rfl,hk3⟩;unfold eG))
      go_roundg (l.length-(k+1))
      case measure=>omega
      case rel=>exact⟨k+1,hd,by omega,rfl,by go_num,by rw[HT.out],by rw[HT.out];exact hO.moved (fun x hx=>(hk3.trans ((ab.refl [] _).alloc _)).block x (hO.lt hx) (by simp)),hN,(hK.trans hk3).alloc _⟩
     ·go_wp2_with (first | (go_at_call 80;refine(dQ b o l H _ (by exact hr)).mono ?_;rintro e wc ⟨rfl,rfl⟩) | (go_at_call 97;refine(bb b o k l H _ (by exact hr) hlt).mono ?_;rintro e w3 ⟨rfl,hk3⟩;unfold eG))
      obtain⟨W4,hW4⟩:∃W4,W4=w3.alloc (.cells #[.int .i64 l[k].kind,.string l[k].label,.slice (some ⟨gk',0,none⟩) l[k].symbols.length (H (10+2*k)).cap,.slice (H (11+2*k)).ao l[k].proof.length (H (11+2*k)).cap,.string l[k].fin.file,.int .i64 l[k].fin.line,.int .i64 l[k].fin.col,.int .i64 l[k].til] 158):=⟨_,rfl⟩
      rw[<-hW4];have k4:ab [] wc W4:=by rw[hW4];exact hk3.alloc _
      have B4:W4.heap[w3.heap.size]?=some (.cells #[.int .i64 l[k].kind,.string l[k].label,.slice (some ⟨gk',0,none⟩) l[k].symbols.length (H (10+2*k)).cap,.slice (H (11+2*k)).ao l[k].proof.length (H (11+2*k)).cap,.string l[k].fin.file,.int .i64 l[k].fin.line,.int .i64 l[k].fin.col,.int .i64 l[k].til] 158 (0,0)):=by rw[hW4];exact heap_alloc_new _ _
      have q2:W4.cell? ⟨w3.heap.size,2,none⟩=some (.slice (some ⟨gk',0,none⟩) l[k].symbols.length (H (10+2*k)).cap):=by rw[aa B4];rfl
      have hr4:=hr.still k4;have hO4:aA W4 hd (aD (ed l a k)):=hO.moved (fun x hx=>k4.block x (hO.lt hx) (by simp));have OK4:=hr4.sts.syms k l[k] (List.getElem?_eq_getElem hlt);have hK4:=hK.trans k4;have hsrc:Hid (∀j u,(dN l[k].symbols)[j]?=some u->W4.cell? ((⟨gk',0,none⟩:Addr).add j)=some u):=fun j u hj=>by rw[bK];exact OK4.cell ek j u hj
      clear hW4 hk3 k4 B4 hr hO OK' OK4 hK
      cases hh:im l k a
      ·have HT:Hid (ed l a (k+1)=ed l a k):=qH l a k (by rw[HES.out,hh];simp)
       clear HES;go_wp2_with (go_at_call 187;refine(fB b o k a l H _ (by exact hr4) hlt).mono ?_;rintro e w5 ⟨rfl,rfl⟩)
       go_roundg (l.length-(k+1))
       case measure=>omega
       case rel=>exact⟨k+1,hd,by omega,rfl,by go_num,by rw[HT.out],by rw[HT.out];exact hO4,hN,hK4⟩
      ·have HT:Hid (ed l a (k+1)=ed l a k++l[k].symbols):=by show _=_;rw[uk l a k (by rw[HES.out,hkd,hh];rfl),SY.out]
       clear HES SY;go_wp2_with (first | (go_at_call 187;refine(fB b o k a l H _ (by exact hr4) hlt).mono ?_;rintro e w5 ⟨rfl,rfl⟩) | (at_builtin;refine aM _ rfl (.tmp 32) (.tmp 34) 61 rfl i0 (.string ⟨#[]⟩) 16 hd (aD (ed l a k)) Tryz.underlying61 hi hz0 hz1 hz2 rfl Nat.one_pos rfl (by exact hO4) ⟨gk',0,none⟩ l[k].symbols.length (H (10+2*k)).cap (dN l[k].symbols) rfl ?d0 hsrc.out (ko _) hpk ?d3 ?d4 ?_))
       case d0=>simp[dN,aD]
       case d3=>simp only[aD];unfold maxLen;omega
       case d4=>simp only[aD];omega
       intro g5 cap5 w5 hw5 hgr5 hfresh5;rw[oe (ed l a k) l[k].symbols,<-HT.out]at hw5;have hK5:=hK4.grown hgr5 hN
       have hg5:w.heap.size<=g5:=by
        rcases hfresh5 with e | e
        ·exact hN g5 e
        ·exact Nat.le_trans hK4.size e
       have hEl:Hid ((aD (ed l a k)).n+l[k].symbols.length=(ed l a (k+1)).length):=by show _=_;rw[HT.out];simp[aD]
       rw[hEl.out];clear hsrc hgr5 hfresh5 q2 hO4;go_wp2
       go_roundg (l.length-(k+1))
       case measure=>omega
       case rel=>exact⟨k+1,⟨some ⟨g5,0,none⟩,cap5⟩,by omega,rfl,by go_num,rfl,hw5,by intro x hx;simp[Hd.blk]at hx;omega,hK5⟩
   ·have e:k=l.length:=by omega
    subst e;go_wp2_with (go_at_call 80;refine(dQ b o l H _ (by exact hr)).mono ?_;rintro e w3 ⟨rfl,rfl⟩);go_ret;exact⟨hd,rfl,hO,hN,hK⟩
end
def oY(l:List St)(syms:List ByteArray)(a n:Nat):Bool:=match l[n]? with | some s=>im l n a&&rZ s syms | none=>false
theorem Fm(l:List St)(syms:List ByteArray)(a n:Nat)(h:n<l.length):oY l syms a n=(im l n a&&rZ l[n] syms):=by
 unfold oY;rw[List.getElem?_eq_getElem h]
def eO(l:List St)(a k:Nat):List Nat:=(List.range k).filter (oY l (gC l a) a)
def bE(l:List St)(a:Nat):List Nat:=eO l a l.length
theorem t7(l:List St)(a k:Nat)(h:oY l (gC l a) a k=true):eO l a (k+1)=eO l a k++[k]:=by
 unfold eO;rw[List.range_succ,List.filter_append];simp[h]
theorem qD(l:List St)(a k:Nat)(h:oY l (gC l a) a k=false):eO l a (k+1)=eO l a k:=by
 unfold eO;rw[List.range_succ,List.filter_append];simp[h]
theorem mH(l:List St)(a k:Nat):(eO l a k).length<=k:=by
 unfold eO;have:=List.length_filter_le (oY l (gC l a) a) (List.range k);simpa using this
theorem Bm(l:List St)(a:Nat)(ok:jH l)(ha:a<l.length):(gC l a).length<=1073741824:=by
 have h1:=ta l a l.length ok ha (Nat.le_refl _);have h2:=ok.len;have h3:l.length*10000<=10000*10000:=Nat.mul_le_mul_right _ h2;unfold gC;omega
set_option maxRecDepth 100000 in
theorem nM(b o a:Nat)(l:List St)(H:Nat->Hd)(w:World)(h:ev w b o l H)(ha:a<l.length)(ok:jH l) :
  Calls Tryz.prog 142 #[.pointer (some ⟨b,o,none⟩),.int .i64 a] w fun e w'=>∃hd:Hd,e=.returned (.slice hd.ao (bE l a).length hd.cap)/\aA w' hd (bq (bE l a))/\(∀k,hd.blk=some k->w.heap.size<=k)/\ab [] w w':=by
 obtain⟨i0,hi,hz0,hz1,hz2⟩:=info_parts vw;have hlen:=ok.len;have hbw:=h.lt;have hsyl:=Bm l a ok ha;go_enter Tryz.func142,Tryz.ntmps142;go_wp2_with fail;refine(uY b o a l H _ h ha ok).mono ?_;rintro e w1 ⟨hy,rfl,hOy,hNy,hk1⟩;go_wp2
 go_loopg [5,7] l.length (fun gk sv i wr=>∃(k:Nat) (hd:Hd),k<=l.length/\gk=l.length-k/\i=.int .i64 k/\sv=.slice hd.ao (eO l a k).length hd.cap/\aA wr hd (bq (eO l a k))/\(∀x,hd.blk=some x->w1.heap.size<=x)/\ab [] w1 wr)
 case atStart=>exact⟨0,⟨none,0⟩,by omega,by omega,rfl,rfl,World.ownsRow_nil _ _ _ _,by intro x hx;simp[Hd.blk]at hx,ab.refl _ _⟩
 case round =>
  obtain⟨k,hd,hk,hg,rfl,rfl,hO,hN,hK⟩:=hrel;have hr:=(h.still hk1).still hK;have hVy:jg wr hy (gC l a):=(hOy.view).still hK;have hhl:=mH l a k
  by_cases hlt:k<l.length
  ·have HM:=(show Hid _ from Fm l (gC l a) a k hlt)
   have hsk:=ok.syms k hlt;have hVk:=(hr.sts.syms k l[k] (List.getElem?_eq_getElem hlt)).view
   cases hh:im l k a
   ·have HT:Hid (eO l a (k+1)=eO l a k):=qD l a k (by rw[HM.out,hh];rfl)
    clear HM hVk hVy;go_wp2_with (first | (go_at_call 80;refine(dQ b o l H _ (by exact hr)).mono ?_;rintro e wc ⟨rfl,rfl⟩) | (go_at_call 187;refine(fB b o k a l H _ (by exact hr) hlt).mono ?_;rintro e wd ⟨rfl,rfl⟩))
    go_roundg (l.length-(k+1))
    case measure=>omega
    case rel=>exact⟨k+1,hd,by omega,rfl,by go_num,by rw[HT.out],by rw[HT.out];exact hO,hN,hK⟩
   ·have ME:=fun(w':World) (v1:jg w' (H (10+2*k)) l[k].symbols) (v2:jg w' hy (gC l a))=>su l[k] (H (10+2*k)) (H (11+2*k)) hy (gC l a) w' v1 v2 (by omega) hsyl
    have HME:=(show Hid _ from ME);clear ME
    cases hm:rZ l[k] (gC l a)
    ·have HT:Hid (eO l a (k+1)=eO l a k):=qD l a k (by rw[HM.out,hm];simp)
     rw[hm]at HME;clear HM;go_wp2_with (first | (go_at_call 80;refine(dQ b o l H _ (by exact hr)).mono ?_;rintro e wc ⟨rfl,rfl⟩) | (go_at_call 187;refine(fB b o k a l H _ (by exact hr) hlt).mono ?_;rintro e wd ⟨rfl,rfl⟩) | (go_at_call 97;refine(bb b o k l H _ (by exact hr) hlt).mono ?_;rintro e w3 ⟨rfl,hk3⟩) | (go_at_call 188;refine(HME.out _ (by exact hVk.still hk3) (by exact hVy.still hk3)).mono ?_;rintro e w4 ⟨rfl,hk4⟩))
     go_roundg (l.length-(k+1))
     case measure=>omega
     case rel=>exact⟨k+1,hd,by omega,rfl,by go_num,by rw[HT.out],by rw[HT.out];exact hO.moved (fun x hx=>(hk3.trans hk4).block x (hO.lt hx) (by simp)),hN,(hK.trans hk3).trans hk4⟩
    ·have HT:Hid (eO l a (k+1)=eO l a k++[k]):=t7 l a k (by rw[HM.out,hh,hm];rfl)
     rw[hm]at HME;clear HM;go_wp2_with (first | (go_at_call 80;refine(dQ b o l H _ (by exact hr)).mono ?_;rintro e wc ⟨rfl,rfl⟩) | (go_at_call 187;refine(fB b o k a l H _ (by exact hr) hlt).mono ?_;rintro e wd ⟨rfl,rfl⟩) | (go_at_call 97;refine(bb b o k l H _ (by exact hr) hlt).mono ?_;rintro e w3 ⟨rfl,hk3⟩) | (go_at_call 188;refine(HME.out _ (by exact hVk.still hk3) (by exact hVy.still hk3)).mono ?_;rintro e w4 ⟨rfl,hk4⟩;have hO4:=hO.moved (fun x hx=>((hk3.trans hk4).alloc (.cells #[.int .i64 k] 3)).block x (hO.lt hx) (by simp))) | (at_builtin;refine aM _ rfl (.tmp 28) (.tmp 30) 26 rfl i0 (.int .i64 0) 8 hd (bq (eO l a k)) Tryz.underlying26 hi hz0 hz1 hz2 rfl Nat.one_pos rfl (by exact hO4) ⟨_,0,none⟩ 1 1 [.int .i64 k] rfl rfl ?d1 ?d2 Nat.one_pos ?d3 ?d4 ?_))
     case d1=>intro j u hj;match j,hj with | 0,hj=>simp at hj;subst hj;simp[Addr.add]
     case d2=>intro u hu;simp at hu;subst hu;rfl
     case d3=>simp only[bq];unfold maxLen;omega
     case d4=>simp only[bq];omega
     intro g5 cap5 w5 hw5 hgr5 hfresh5;rw[kT (eO l a k) k,<-HT.out]at hw5;have hK4:=((hK.trans hk3).trans hk4).alloc (.cells #[.int .i64 k] 3);have hK5:=hK4.grown hgr5 hN
     have hg5:w1.heap.size<=g5:=by
      rcases hfresh5 with e | e
      ·exact hN g5 e
      ·have:=hK4.size;simp at e this;omega
     have hEl:Hid ((bq (eO l a k)).n+1=(eO l a (k+1)).length):=by show _=_;rw[HT.out];simp[bq]
     rw[hEl.out];clear hgr5 hfresh5 hO4;go_wp2
     go_roundg (l.length-(k+1))
     case measure=>omega
     case rel=>exact⟨k+1,⟨some ⟨g5,0,none⟩,cap5⟩,by omega,rfl,by go_num,rfl,hw5,by intro x hx;simp[Hd.blk]at hx;omega,hK5⟩
  ·have e:k=l.length:=by omega
   subst e;have hK':=hk1.trans hK;have hs1:=hk1.size;go_wp2_with (go_at_call 80;refine(dQ b o l H _ (by exact hr)).mono ?_;rintro e w3 ⟨rfl,rfl⟩);go_ret;exact⟨hd,rfl,hO,fun x hx=>Nat.le_trans hs1 (hN x hx),hK'⟩
end Go.Proofs.YtpddjjabfbfifaaGreat
