import Derived.Test.YtlbhbocbakijbaaGreatG17
namespace Go.Proofs.YtlbhbocbakijbaaGreat
open Go.RowKit
set_option maxHeartbeats 0
theorem rg{l:List St}{t:ByteArray}{a n:Nat}(h:ft l t a=some n):n<l.length:=by
 unfold ft at h;have:=List.mem_of_find?_eq_some h;simpa using this
def xG(l:List St)(s:fk):Prop:=s.number<=1020000/\((s.kind==3)=false->s.number<l.length)
theorem zJ(l:List St)(a:Nat)(fin:Pl)(hl:0<l.length)(hl2:l.length<=10000)(ws:List (ByteArray×Pl))(acc:List fk)(h:∀s∈acc,xG l s)(N:Nat)(hN:acc.length<=N) :
  (∀s∈(bM l a fin ws acc).1,xG l s)/\(bM l a fin ws acc).1.length<=N+ws.length:=by
 induction ws generalizing acc N with
 | nil =>
  rw[bM]
  split
  ·exact⟨by simp,by simp⟩
  ·exact⟨h,by simpa using hN⟩
 | cons x r ih =>
  obtain⟨t,p⟩:=x;rw[bM]
  split
  ·have:=ih (acc++[⟨1,0,p⟩]) (by intro s hs;simp at hs;rcases hs with hs | rfl;exact h s hs;exact⟨by simp,fun _=>hl⟩) (N+1) (by simp;omega)
   exact⟨this.1,by have:=this.2;simp;omega⟩
  ·split
   ·exact⟨by simp,by simp⟩
   ·next n hn =>
    have hlt:=rg hn;have:=ih (acc++[⟨2,n,p⟩]) (by intro s hs;simp at hs;rcases hs with hs | rfl;exact h s hs;exact⟨by simp only;omega,fun _=>hlt⟩) (N+1) (by simp;omega);exact⟨this.1,by have:=this.2;simp;omega⟩
structure qy(l:List St)(c:gG):Prop where
 names:∀n∈c.names,n<l.length
 tagged:∀n∈c.tagged,n<=1020000
 steps:∀s∈c.steps,xG l s
theorem qy.letter{l:List St}{c:gG}{N:Nat}(g:qy l c)(h:dU c N)(hl:0<l.length)(hl2:l.length<=10000)(hN:N<=1020000)(n:Nat)(p:Pl):qy l (aY c n p).2:=by
 have h3:=h.steps;unfold aY
 split
 ·unfold fc cH
  split
  ·next hlt =>
   refine⟨g.names,g.tagged,?_⟩;intro s hs;simp at hs
   rcases hs with hs | rfl
   ·exact g.steps s hs
   ·have:=g.names _ (List.getElem_mem hlt)
    rw[List.getElem?_eq_getElem hlt];exact⟨by simp only[Option.getD_some];omega,fun _=>this⟩
  ·split
   ·next hlt =>
    refine⟨g.names,g.tagged,?_⟩;intro s hs;simp at hs
    rcases hs with hs | rfl
    ·exact g.steps s hs
    ·have:=g.tagged _ (List.getElem_mem hlt)
     rw[List.getElem?_eq_getElem hlt];exact⟨this,fun e=>by simp at e⟩
   ·exact⟨g.names,g.tagged,g.steps⟩
 ·split
  ·unfold gC
   split <;> exact⟨g.names,g.tagged,g.steps⟩
  ·split
   ·refine⟨g.names,?_,g.steps⟩
    intro x hx;simp at hx
    rcases hx with hx | rfl
    ·exact g.tagged x hx
    ·omega
   ·split
    ·refine⟨g.names,g.tagged,?_⟩
     intro s hs;simp[cH]at hs
     rcases hs with hs | rfl
     ·exact g.steps s hs
     ·exact⟨by simp,fun _=>hl⟩
    ·exact g
theorem tm{l:List St}(hl:0<l.length)(hl2:l.length<=10000)(t:ByteArray)(p:Pl)(f:Nat):∀(j:Nat) (c:gG) (N:Nat),qy l c->dU c (N+j)->j<=t.size->N+t.size<=1020000->qy l (cX t p f j c).2:=by
 induction f with
 | zero=>intro j c N g h hj hN;exact g
 | succ f ih =>
  intro j c N g h hj hN;rw[cX]
  split
  ·next hlt =>
   have h2:=h.letter (aw t j).toNat { p with col:=p.col+j };have g2:=g.letter h hl hl2 (by omega) (aw t j).toNat { p with col:=p.col+j }
   split
   ·exact ih (j+1) _ N g2 (by rw[<-Nat.add_assoc];exact h2) (by omega) hN
   ·exact g2
  ·exact g
theorem tq{l:List St}(hl:0<l.length)(hl2:l.length<=10000)(ws:List (ByteArray×Pl)):∀(c:gG) (N:Nat),qy l c->dU c N->N+fX ws<=1020000->qy l (gT ws c).2/\dU (gT ws c).2 1020000:=by
 induction ws with
 | nil=>intro c N g h hN;exact⟨g,h.mono (by simp[fX]at hN;omega)⟩
 | cons x r ih =>
  intro c N g h hN;obtain⟨t,p⟩:=x;have es:fX ((t,p) :: r)=t.size+fX r:=by simp[fX]
  rw[es]at hN;have g1:qy l (gN t p c).2:=tm hl hl2 t p _ 0 c N g h (Nat.zero_le _) (by omega);have h1:=rU t p h;rw[gT]
  split
  ·exact ih _ (N+t.size) g1 h1 (by omega)
  ·exact⟨g1,h1.mono (by omega)⟩
theorem vL(l:List St)(a:Nat)(fin:Pl)(ws:List (ByteArray×Pl))(i:Nat)(ns:List Nat)(h:∀n∈ns,n<l.length):∀n∈(bB l a fin i ws ns).2,n<l.length:=by
 induction ws generalizing i ns with
 | nil=>exact h
 | cons x r ih =>
  obtain⟨t,p⟩:=x;rw[bB]
  split
  ·exact h
  ·split
   ·exact h
   ·next n hn =>
    split
    ·exact h
    ·exact ih (i+1) (ns++[n]) (by intro m hm;simp at hm;rcases hm with hm | rfl;exact h m hm;exact rg hn)
theorem sP(l:List St)(a:Nat)(ok:db l)(ha:a<l.length)(okp:iQ l[a]):xM l (bR l a l[a]).1:=by
 have hl:0<l.length:=by omega
 have hp:=ok.prfs a ha;have hsz:=okp.size
 have key:(∀s∈(bR l a l[a]).1,xG l s)/\(bR l a l[a]).1.length<=1100000:=by
  unfold bR
  split
  ·unfold fH mh
   have c0:=tJ l a l[a] ok.len hp;have g0:qy l ⟨(bB l a l[a].fin 1 (l[a].proof.drop 1) (aq l a)).2,[],[],0,false⟩:=⟨vL l a l[a].fin _ 1 _ (fun n hn=>oY hn),by simp,by simp⟩;generalize bB l a l[a].fin 1 (l[a].proof.drop 1) (aq l a)=BL at *;obtain⟨⟨nx,bf⟩,ns⟩:=BL;simp only at c0 g0 ⊢
   have key2:qy l (vu bf (l[a].proof.drop nx) ⟨ns,[],[],0,false⟩).2/\dU (vu bf (l[a].proof.drop nx) ⟨ns,[],[],0,false⟩).2 1020000:=by
    unfold vu
    split
    ·exact tq hl ok.len _ _ 20000 g0 c0 (by have:=uY l[a].proof nx;omega)
    ·exact⟨g0,c0.mono (by omega)⟩
   generalize vu bf (l[a].proof.drop nx) ⟨ns,[],[],0,false⟩=R at *;unfold j9
   split
   ·split
    ·split
     ·exact⟨by simp,by simp⟩
     ·exact⟨key2.1.steps,by have:=key2.2.steps;simp only;omega⟩
    ·exact⟨by simp,by simp⟩
   ·exact⟨by simp,by simp⟩
  ·have:=zJ l a l[a].fin hl ok.len l[a].proof [] (by simp) 0 (by simp)
   exact⟨this.1,by have:=this.2;omega⟩
 exact⟨key.2,fun s hs=>by have:=(key.1 s hs).1;omega,fun s hs=>(key.1 s hs).2⟩
section
theorem nL(w:World)(k l c u:Int)(lab f:ByteArray)(a1 a2:Option Addr)(n1 c1 n2 c2:Nat) :
    (Instr.field 144 (.agg #[.int .i64 k,.string lab,.slice a1 n1 c1,.slice a2 n2 c2,.string f,.int .i64 l,.int .i64 c,.int .i64 u]) 1).run Tryz.prog w=.ok (.string lab) w:=by kernel_rfl
attribute [local go_sem] nL
def gi(label:ByteArray)(L:List Rw)(steps:List fk)(f:lW):Rw :=
  if(f.1==0)=true then
    (match nF steps with
     | some u=>⟨label,3,0,((steps[u]?).map fk.at_).getD fJ⟩
     | none=>if jo L steps=true then⟨label,5,0,fJ⟩ else⟨label,4,0,fJ⟩)
  else⟨label,2,f.1,f.2⟩
def bP(l:List St)(n:Nat)(s:St)(L:List Rw):Rw :=
  gi s.label L (bR l n s).1 (if(nF (bR l n s).1).isNone=true/\((bR l n s).2.1==0)=true then b8 l n s (bR l n s).1 else(bR l n s).2)
theorem cN{w:World}{r:Nat}{x:Rw}(h:w.heap[r]?=some (.cells (gB x).toArray 53 (0,0))) :
    w.cell? ⟨r,0,none⟩=some (.string x.label)/\w.cell? ⟨r,1,none⟩=some (.int .i64 x.verdict)/\w.cell? ⟨r,2,none⟩=some (.int .i64 x.why)/\w.cell? ⟨r,3,none⟩=some (.string x.at_.file)/\w.cell? ⟨r,4,none⟩=some (.int .i64 x.at_.line)/\w.cell? ⟨r,5,none⟩=some (.int .i64 x.at_.col):=by
  refine⟨?_,?_,?_,?_,?_,?_⟩ <;> (rw[ab h];rfl)
theorem rs{w wr:World}{F:Nat}(K:aa [] w wr)(h1:w.heap.size<=F)(a0 a1 a2 a3 a4 a5:Value):aa [] w ((((((wr.setCell ⟨F,0,none⟩ a0).setCell ⟨F,1,none⟩ a1).setCell ⟨F,2,none⟩ a2).setCell ⟨F,3,none⟩ a3).setCell ⟨F,4,none⟩ a4).setCell ⟨F,5,none⟩ a5) :=
  (((((K.setCell (Or.inr h1) _).setCell (Or.inr h1) _).setCell (Or.inr h1) _).setCell (Or.inr h1) _).setCell (Or.inr h1) _).setCell (Or.inr h1) _
set_option maxRecDepth 100000 in
theorem zm(b o a g gh:Nat)(l:List St)(H K:Nat->Hd)(L:List Rw)(w:World)(h:eR w b o l H g L)(ok:db l)(ha:a<l.length)(okp:iQ l[a])(hall:ed w gh l l.length K) :
    Calls Tryz.prog 94 #[.pointer (some ⟨b,o,none⟩),.int .i64 a,.slice (some ⟨gh,0,none⟩) l.length l.length] w fun e w' =>
      e=.returned (.agg (gB (bP l a l[a] L)).toArray)/\aa [] w w':=by
  have hbw:=h.recd.lt;have hlen:=ok.len;have sok:=sP l a ok ha okp;obtain⟨W,hW⟩:∃W,W=w.alloc (.cells #[.string ⟨#[]⟩,.int .i64 0,.int .i64 0,.string ⟨#[]⟩,.int .i64 0,.int .i64 0] 53):=⟨_,rfl⟩
  have kW:aa [] w W:=by rw[hW];exact(aa.refl [] _).alloc _
  have BF:W.heap[w.heap.size]?=some (.cells (gB jX).toArray 53 (0,0)):=by rw[hW];exact heap_alloc_new _ _
  have HW:=(show Hid _ from hW.symm);clear hW;have HJ:Hid (bP l a l[a] L=gi l[a].label L (bR l a l[a]).1 (if(nF (bR l a l[a]).1).isNone=true/\((bR l a l[a]).2.1==0)=true then b8 l a l[a] (bR l a l[a]).1 else(bR l a l[a]).2)):=rfl;have RD:=fun(w':World) (k:aa [] w w')=>rC b o a l H w' (h.still k).recd ha ok okp
  have PL:=fun(hd:Hd) (w':World) (k:aa [] w w') (o':au w' hd (dB (bR l a l[a]).1))=>Be b o gh a l H K hd (bR l a l[a]).1 w' (h.still k).recd ok ha (hall.still k) o' sok
  have hslen:=sok.len;have HRD:=(show Hid _ from RD);have HPL:=(show Hid _ from PL);clear RD PL sok;generalize bR l a l[a]=PF at *;obtain⟨steps,pf,pp⟩:=PF;simp only at HJ HRD HPL hslen;go_enter Tryz.func94,Tryz.ntmps94
  go_upto_region 1 with fail
  rw[HW.out]
  go_upto_region 2 with (go_at_call 87;refine(aI b o a l H _ (by exact(h.still kW).recd) ha).mono ?_;rintro e w1 ⟨rfl,k1⟩;unfold cQ)
  obtain⟨W2,hW2⟩:∃W2,W2=w1.alloc (.cells #[.string l[a].label,.int .i64 0,.int .i64 0,.string ⟨#[]⟩,.int .i64 0,.int .i64 0] 53):=⟨_,rfl⟩
  have k2:aa [] W W2:=by rw[hW2];exact k1.alloc _
  have BR:W2.heap[w1.heap.size]?=some (.cells (gB ⟨l[a].label,0,0,fJ⟩).toArray 53 (0,0)):=by rw[hW2];exact heap_alloc_new _ _
  have hs1:w.heap.size<w1.heap.size:=by have:=k1.size;have:=ac BF;omega
  rw[<-hW2];clear hW2;have K2:=kW.trans k2;have BF2:=k2.get BF (by simp)
  go_upto_region 3 with (go_at_call 97;refine(HRD.out _ (by exact K2)).mono ?_;rintro e w3 ⟨hd,rfl,hO3,hN3,k3⟩;unfold eM)
  obtain⟨W4,hW4⟩:∃W4,W4=w3.alloc (.cells #[.int .i64 pf,.string pp.file,.int .i64 pp.line,.int .i64 pp.col] 167):=⟨_,rfl⟩
  have k4:aa [] W2 W4:=by rw[hW4];exact k3.alloc _
  have B9:W4.heap[w3.heap.size]?=some (.cells (tZ (pf,pp)) 167 (0,0)):=by rw[hW4];exact heap_alloc_new _ _
  have hO4:au W4 hd (dB steps):=by rw[hW4];exact hO3.moved (fun x hx=>((aa.refl [] _).alloc _).block x (hO3.lt hx) (by simp))
  rw[<-hW4];clear hW4;have hs3:w1.heap.size<w3.heap.size:=by have:=k3.size;have:=ac BR;omega
  have K4:=K2.trans k4;have BR4:=k4.get BR (by simp);have BF4:=k4.get BF2 (by simp);have FU:=mX hd steps W4 hO4 (by omega)
  cases hu:nF steps with
  | some u =>
    have HU:=(show Hid _ from hu);rw[hu]at FU;simp only[bQ]at FU
    have hul:u<steps.length:=by
      have:=List.mem_of_find?_eq_some hu;simpa using this
    have hui:¬((u:Int)<0):=by omega
    have hui2:(u:Int) ≥ 0:=by omega
    have hui3:(u:Int)<steps.length:=by omega
    clear hu;have KV:=K4;have B9V:=B9;have BRV:=BR4;have BFV:=BF4;obtain⟨f0,f1,f2,f3⟩:=fd B9V;obtain⟨r0,r1,r2,r3,r4,r5⟩:=cN BRV;have yr:=an BRV;simp only[fJ]at r0 r1 r2 r3 r4 r5
    cases hp:(pf==0)
    · have hp':(pf != 0)=true:=by simp[bne,hp]
      have HF:Hid (bP l a l[a] L=⟨l[a].label,2,pf,pp⟩):=by show _=_;rw[HJ.out,HU.out,hp];simp[gi,hp]
      clear HJ
      go_upto_region 4 with (go_at_call 110;refine FU.mono ?_;rintro e wu ⟨rfl,hwu⟩;rw[hwu])
      go_upto_region 16 with fail
      obtain⟨X,hX⟩:∃X,X=((((W4.setCell ⟨w1.heap.size,1,none⟩ (.int .i64 2)).setCell ⟨w1.heap.size,2,none⟩ (.int .i64 pf)).setCell ⟨w1.heap.size,3,none⟩ (.string pp.file)).setCell ⟨w1.heap.size,4,none⟩ (.int .i64 pp.line)).setCell ⟨w1.heap.size,5,none⟩ (.int .i64 pp.col):=⟨_,rfl⟩
      have BX:X.heap[w1.heap.size]?=some (.cells (gB ⟨l[a].label,2,pf,pp⟩).toArray 53 (0,0)):=by
        rw[hX];rw[ae (ae (ae (ae (ae BRV _ _) _ _) _ _) _ _) _ _];rfl
      have KX:aa [] w X:=by rw[hX];exact(((((KV.setCell (Or.inr (Nat.le_of_lt hs1)) _).setCell (Or.inr (Nat.le_of_lt hs1)) _).setCell (Or.inr (Nat.le_of_lt hs1)) _).setCell (Or.inr (Nat.le_of_lt hs1)) _).setCell (Or.inr (Nat.le_of_lt hs1)) _)
      have BFX:X.heap[w.heap.size]?=some (.cells (gB jX).toArray 53 (0,0)):=by
        rw[hX];rw[Below.heap_setCell _ _ _ _ (by simp;omega)];rw[Below.heap_setCell _ _ _ _ (by simp;omega)];rw[Below.heap_setCell _ _ _ _ (by simp;omega)];rw[Below.heap_setCell _ _ _ _ (by simp;omega)];rw[Below.heap_setCell _ _ _ _ (by simp;omega)];exact BFV
      rw[<-hX];clear hX r0 r1 r2 r3 r4 r5 yr;obtain⟨r0,r1,r2,r3,r4,r5⟩:=cN BX;obtain⟨s0,s1,s2,s3,s4,s5⟩:=cN BFX;have ys:=an BFX;simp only[jX,fJ]at r0 r1 r2 r3 r4 r5 s0 s1 s2 s3 s4 s5;go_wp2;exact bodyPost_ret (v:=.agg (gB ⟨l[a].label,2,pf,pp⟩).toArray) (by simp[results,Tryz.results94,go_sem,s0,s1,s2,s3,s4,s5,gB]) rfl ⟨by rw[HF.out],rs KX (Nat.le_refl _) _ _ _ _ _ _⟩
    · have hp':(pf != 0)=false:=by simp[bne,hp]
      obtain⟨gp,ep,ecap,ecap2,-,-,d2,d3,d4⟩:=hO4.step u hul;have HF:Hid (bP l a l[a] L=⟨l[a].label,3,0,steps[u].at_⟩):=by show _=_;rw[HJ.out,HU.out,hp];simp[gi,hp,HU.out,hul]
      obtain⟨ao,cap⟩:=hd;simp only at ep ecap ecap2;subst ep;clear HJ;generalize steps[u]=st at *
      go_upto_region 4 with (go_at_call 110;refine FU.mono ?_;rintro e wu ⟨rfl,hwu⟩;rw[hwu])
      go_upto_region 16 with fail
      obtain⟨X,hX⟩:∃X,X=(((W4.setCell ⟨w1.heap.size,1,none⟩ (.int .i64 3)).setCell ⟨w1.heap.size,3,none⟩ (.string st.at_.file)).setCell ⟨w1.heap.size,4,none⟩ (.int .i64 st.at_.line)).setCell ⟨w1.heap.size,5,none⟩ (.int .i64 st.at_.col):=⟨_,rfl⟩
      have BX:X.heap[w1.heap.size]?=some (.cells (gB ⟨l[a].label,3,0,st.at_⟩).toArray 53 (0,0)):=by
        rw[hX];rw[ae (ae (ae (ae BRV _ _) _ _) _ _) _ _];rfl
      have KX:aa [] w X:=by rw[hX];exact((((KV.setCell (Or.inr (Nat.le_of_lt hs1)) _).setCell (Or.inr (Nat.le_of_lt hs1)) _).setCell (Or.inr (Nat.le_of_lt hs1)) _).setCell (Or.inr (Nat.le_of_lt hs1)) _)
      have BFX:X.heap[w.heap.size]?=some (.cells (gB jX).toArray 53 (0,0)):=by
        rw[hX];rw[Below.heap_setCell _ _ _ _ (by simp;omega)];rw[Below.heap_setCell _ _ _ _ (by simp;omega)];rw[Below.heap_setCell _ _ _ _ (by simp;omega)];rw[Below.heap_setCell _ _ _ _ (by simp;omega)];exact BFV
      rw[<-hX];clear hX r0 r1 r2 r3 r4 r5 yr;obtain⟨r0,r1,r2,r3,r4,r5⟩:=cN BX;obtain⟨s0,s1,s2,s3,s4,s5⟩:=cN BFX;have ys:=an BFX;simp only[jX,fJ]at r0 r1 r2 r3 r4 r5 s0 s1 s2 s3 s4 s5;go_wp2;exact bodyPost_ret (v:=.agg (gB ⟨l[a].label,3,0,st.at_⟩).toArray) (by simp[results,Tryz.results94,go_sem,s0,s1,s2,s3,s4,s5,gB]) rfl ⟨by rw[HF.out],rs KX (Nat.le_refl _) _ _ _ _ _ _⟩
  | none =>
    have HU:=(show Hid _ from hu);rw[hu]at FU;simp only[bQ]at FU;clear hu
    cases hp:(pf==0)
    · have hp':(pf != 0)=true:=by simp[bne,hp]
      have HF:Hid (bP l a l[a] L=⟨l[a].label,2,pf,pp⟩):=by show _=_;rw[HJ.out,HU.out,hp];simp[gi,hp]
      have KV:=K4;have B9V:=B9;have BRV:=BR4;have BFV:=BF4;obtain⟨f0,f1,f2,f3⟩:=fd B9V;obtain⟨r0,r1,r2,r3,r4,r5⟩:=cN BRV;have yr:=an BRV;simp only[fJ]at r0 r1 r2 r3 r4 r5;clear HJ
      go_upto_region 4 with (go_at_call 110;refine FU.mono ?_;rintro e wu ⟨rfl,hwu⟩;rw[hwu])
      go_upto_region 16 with fail
      obtain⟨X,hX⟩:∃X,X=((((W4.setCell ⟨w1.heap.size,1,none⟩ (.int .i64 2)).setCell ⟨w1.heap.size,2,none⟩ (.int .i64 pf)).setCell ⟨w1.heap.size,3,none⟩ (.string pp.file)).setCell ⟨w1.heap.size,4,none⟩ (.int .i64 pp.line)).setCell ⟨w1.heap.size,5,none⟩ (.int .i64 pp.col):=⟨_,rfl⟩
      have BX:X.heap[w1.heap.size]?=some (.cells (gB ⟨l[a].label,2,pf,pp⟩).toArray 53 (0,0)):=by
        rw[hX];rw[ae (ae (ae (ae (ae BRV _ _) _ _) _ _) _ _) _ _];rfl
      have KX:aa [] w X:=by rw[hX];exact(((((KV.setCell (Or.inr (Nat.le_of_lt hs1)) _).setCell (Or.inr (Nat.le_of_lt hs1)) _).setCell (Or.inr (Nat.le_of_lt hs1)) _).setCell (Or.inr (Nat.le_of_lt hs1)) _).setCell (Or.inr (Nat.le_of_lt hs1)) _)
      have BFX:X.heap[w.heap.size]?=some (.cells (gB jX).toArray 53 (0,0)):=by
        rw[hX];rw[Below.heap_setCell _ _ _ _ (by simp;omega)];rw[Below.heap_setCell _ _ _ _ (by simp;omega)];rw[Below.heap_setCell _ _ _ _ (by simp;omega)];rw[Below.heap_setCell _ _ _ _ (by simp;omega)];rw[Below.heap_setCell _ _ _ _ (by simp;omega)];exact BFV
      rw[<-hX];clear hX r0 r1 r2 r3 r4 r5 yr;obtain⟨r0,r1,r2,r3,r4,r5⟩:=cN BX;obtain⟨s0,s1,s2,s3,s4,s5⟩:=cN BFX;have ys:=an BFX;simp only[jX,fJ]at r0 r1 r2 r3 r4 r5 s0 s1 s2 s3 s4 s5;go_wp2;exact bodyPost_ret (v:=.agg (gB ⟨l[a].label,2,pf,pp⟩).toArray) (by simp[results,Tryz.results94,go_sem,s0,s1,s2,s3,s4,s5,gB]) rfl ⟨by rw[HF.out],rs KX (Nat.le_refl _) _ _ _ _ _ _⟩
    · have HJ2:Hid (bP l a l[a] L=gi l[a].label L steps (b8 l a l[a] steps)):=by show _=_;rw[HJ.out,HU.out,hp];simp
      obtain⟨f0,f1,f2,f3⟩:=fd B9;clear HJ;generalize b8 l a l[a] steps=f at *
      go_upto_region 4 with (go_at_call 110;refine FU.mono ?_;rintro e wu ⟨rfl,hwu⟩;rw[hwu])
      have KV4:=K4
      go_upto_region 7 with (go_at_call 111;refine(HPL.out hd _ (by exact K4) (by exact hO4)).mono ?_;rintro e w5 ⟨rfl,k5⟩;unfold eM;obtain⟨t0,t1,t2,t3⟩:=fd (k5.get B9 (by simp));have yt:=an (k5.get B9 (by simp)))
      obtain⟨V,hV⟩:∃V,V=(((w5.setCell ⟨w3.heap.size,0,none⟩ (.int .i64 f.1)).setCell ⟨w3.heap.size,1,none⟩ (.string f.2.file)).setCell ⟨w3.heap.size,2,none⟩ (.int .i64 f.2.line)).setCell ⟨w3.heap.size,3,none⟩ (.int .i64 f.2.col):=⟨_,rfl⟩
      have B9V:V.heap[w3.heap.size]?=some (.cells (tZ f) 167 (0,0)):=by
        rw[hV,ae (ae (ae (ae (k5.get B9 (by simp)) _ _) _ _) _ _)];rfl
      have k9:aa [w3.heap.size] w5 V:=by rw[hV];exact fe _ _ _ _
      have KV:aa [] w V:=by rw[hV];exact gj (K4.trans k5) (by omega) _ _ _ _
      have BRV:=k9.get (k5.get BR4 (by simp)) (by simp;omega);have BFV:=k9.get (k5.get BF4 (by simp)) (by simp;omega);have hOV:au V hd (dB steps):=(hO4.moved (w':=w5) (fun x hx=>k5.block x (hO4.lt hx) (by simp))).moved (fun x hx=>k9.block x (Nat.lt_of_lt_of_le (hO4.lt hx) k5.size) (by simp;rintro rfl;have:=hO3.lt hx;omega));rw[<-hV];clear hV t0 t1 t2 t3 yt;clear f0 f1 f2 f3;obtain⟨f0,f1,f2,f3⟩:=fd B9V;obtain⟨r0,r1,r2,r3,r4,r5⟩:=cN BRV;have yr:=an BRV;simp only[fJ]at r0 r1 r2 r3 r4 r5
      cases hf:(f.1==0)
      · have hf':(f.1 != 0)=true:=by simp[bne,hf]
        have HF:Hid (bP l a l[a] L=⟨l[a].label,2,f.1,f.2⟩):=by show _=_;rw[HJ2.out];simp[gi,hf]
        clear HJ2
        go_upto_region 16 with fail
        obtain⟨X,hX⟩:∃X,X=((((V.setCell ⟨w1.heap.size,1,none⟩ (.int .i64 2)).setCell ⟨w1.heap.size,2,none⟩ (.int .i64 f.1)).setCell ⟨w1.heap.size,3,none⟩ (.string f.2.file)).setCell ⟨w1.heap.size,4,none⟩ (.int .i64 f.2.line)).setCell ⟨w1.heap.size,5,none⟩ (.int .i64 f.2.col):=⟨_,rfl⟩
        have BX:X.heap[w1.heap.size]?=some (.cells (gB ⟨l[a].label,2,f.1,f.2⟩).toArray 53 (0,0)):=by
          rw[hX];rw[ae (ae (ae (ae (ae BRV _ _) _ _) _ _) _ _) _ _];rfl
        have KX:aa [] w X:=by rw[hX];exact(((((KV.setCell (Or.inr (Nat.le_of_lt hs1)) _).setCell (Or.inr (Nat.le_of_lt hs1)) _).setCell (Or.inr (Nat.le_of_lt hs1)) _).setCell (Or.inr (Nat.le_of_lt hs1)) _).setCell (Or.inr (Nat.le_of_lt hs1)) _)
        have BFX:X.heap[w.heap.size]?=some (.cells (gB jX).toArray 53 (0,0)):=by
          rw[hX];rw[Below.heap_setCell _ _ _ _ (by simp;omega)];rw[Below.heap_setCell _ _ _ _ (by simp;omega)];rw[Below.heap_setCell _ _ _ _ (by simp;omega)];rw[Below.heap_setCell _ _ _ _ (by simp;omega)];rw[Below.heap_setCell _ _ _ _ (by simp;omega)];exact BFV
        rw[<-hX];clear hX r0 r1 r2 r3 r4 r5 yr;obtain⟨r0,r1,r2,r3,r4,r5⟩:=cN BX;obtain⟨s0,s1,s2,s3,s4,s5⟩:=cN BFX;have ys:=an BFX;simp only[jX,fJ]at r0 r1 r2 r3 r4 r5 s0 s1 s2 s3 s4 s5;go_wp2;exact bodyPost_ret (v:=.agg (gB ⟨l[a].label,2,f.1,f.2⟩).toArray) (by simp[results,Tryz.results94,go_sem,s0,s1,s2,s3,s4,s5,gB]) rfl ⟨by rw[HF.out],rs KX (Nat.le_refl _) _ _ _ _ _ _⟩
      · have hf':(f.1 != 0)=false:=by simp[bne,hf]
        have RE:=CK b o l H g L hd steps V (h.still KV) hOV (by omega)
        cases hr:jo L steps
        · have HF:Hid (bP l a l[a] L=⟨l[a].label,4,0,fJ⟩):=by show _=_;rw[HJ2.out];simp[gi,hf,HU.out,hr]
          rw[hr]at RE;clear HJ2
          go_upto_region 6 with (go_at_call 112;refine RE.mono ?_;rintro e wv ⟨rfl,hwv⟩;rw[hwv])
          go_upto_region 16 with fail
          obtain⟨X,hX⟩:∃X,X=V.setCell ⟨w1.heap.size,1,none⟩ (.int .i64 4):=⟨_,rfl⟩
          have BX:X.heap[w1.heap.size]?=some (.cells (gB ⟨l[a].label,4,0,fJ⟩).toArray 53 (0,0)):=by
            rw[hX];rw[ae BRV _ _];rfl
          have KX:aa [] w X:=by rw[hX];exact(KV.setCell (Or.inr (Nat.le_of_lt hs1)) _)
          have BFX:X.heap[w.heap.size]?=some (.cells (gB jX).toArray 53 (0,0)):=by
            rw[hX];rw[Below.heap_setCell _ _ _ _ (by simp;omega)];exact BFV
          rw[<-hX];clear hX r0 r1 r2 r3 r4 r5 yr;obtain⟨r0,r1,r2,r3,r4,r5⟩:=cN BX;obtain⟨s0,s1,s2,s3,s4,s5⟩:=cN BFX;have ys:=an BFX;simp only[jX,fJ]at r0 r1 r2 r3 r4 r5 s0 s1 s2 s3 s4 s5;go_wp2;exact bodyPost_ret (v:=.agg (gB ⟨l[a].label,4,0,fJ⟩).toArray) (by simp[results,Tryz.results94,go_sem,s0,s1,s2,s3,s4,s5,gB,fJ]) rfl ⟨by rw[HF.out],rs KX (Nat.le_refl _) _ _ _ _ _ _⟩
        · have HF:Hid (bP l a l[a] L=⟨l[a].label,5,0,fJ⟩):=by show _=_;rw[HJ2.out];simp[gi,hf,HU.out,hr]
          rw[hr]at RE;clear HJ2
          go_upto_region 15 with (go_at_call 112;refine RE.mono ?_;rintro e wv ⟨rfl,hwv⟩;rw[hwv])
          go_upto_region 16 with fail
          obtain⟨X,hX⟩:∃X,X=V.setCell ⟨w1.heap.size,1,none⟩ (.int .i64 5):=⟨_,rfl⟩
          have BX:X.heap[w1.heap.size]?=some (.cells (gB ⟨l[a].label,5,0,fJ⟩).toArray 53 (0,0)):=by
            rw[hX];rw[ae BRV _ _];rfl
          have KX:aa [] w X:=by rw[hX];exact(KV.setCell (Or.inr (Nat.le_of_lt hs1)) _)
          have BFX:X.heap[w.heap.size]?=some (.cells (gB jX).toArray 53 (0,0)):=by
            rw[hX];rw[Below.heap_setCell _ _ _ _ (by simp;omega)];exact BFV
          rw[<-hX];clear hX r0 r1 r2 r3 r4 r5 yr;obtain⟨r0,r1,r2,r3,r4,r5⟩:=cN BX;obtain⟨s0,s1,s2,s3,s4,s5⟩:=cN BFX;have ys:=an BFX;simp only[jX,fJ]at r0 r1 r2 r3 r4 r5 s0 s1 s2 s3 s4 s5;go_wp2;exact bodyPost_ret (v:=.agg (gB ⟨l[a].label,5,0,fJ⟩).toArray) (by simp[results,Tryz.results94,go_sem,s0,s1,s2,s3,s4,s5,gB,fJ]) rfl ⟨by rw[HF.out],rs KX (Nat.le_refl _) _ _ _ _ _ _⟩
end
def fD(l:List St)(n:Nat)(prev:List Rw):Rw:=match l[n]? with
 | some s=>if(s.kind==4)=true then⟨s.label,1,0,fJ⟩ else if(s.kind==5)=true then bP l n s prev else jX
 | none=>jX
def aK(l:List St):Nat->List Rw
 | 0=>[]
 | k+1=>aK l k++[fD l k (aK l k)]
theorem gM(l:List St)(k:Nat):(aK l k).length=k:=by
 induction k with
 | zero=>rfl
 | succ k ih=>simp[aK,ih]
def fh(l:List St)(k:Nat):List Rw:=aK l k++List.replicate (l.length-k) jX
theorem mG(l:List St)(k:Nat)(h:k<=l.length):(fh l k).length=l.length:=by simp[fh,gM];omega
theorem zK(l:List St)(k:Nat)(h:k<l.length):fh l (k+1)=(fh l k).set k (fD l k (aK l k)):=by
 unfold fh;have e:l.length-k=(l.length-(k+1))+1:=by omega
 rw[e,List.replicate_succ,aK];have hl:=gM l k;rw[List.set_append_right _ _ (by omega),hl,Nat.sub_self,List.set_cons_zero,List.append_assoc];rfl
theorem Ct(l:List St):fh l l.length=aK l l.length:=by simp[fh]
theorem Cu(l:List St)(k:Nat)(h:k<l.length):(fh l k).set k jX=fh l k:=by
 unfold fh;have e:l.length-k=(l.length-(k+1))+1:=by omega
 have hl:=gM l k;rw[e,List.replicate_succ,List.set_append_right _ _ (by omega),hl,Nat.sub_self,List.set_cons_zero]
theorem Dl(A:List Rw)(m n:Nat):cR (A++List.replicate m jX) n=cR A n:=by
 unfold cR;rw[List.getD_eq_getElem?_getD,List.getD_eq_getElem?_getD]
 by_cases h:n<A.length
 ·rw[List.getElem?_append_left h]
 ·rw[List.getElem?_append_right (by omega),List.getElem?_eq_none (l:=A) (by omega),List.getElem?_replicate]
  split <;> rfl
theorem uQ{A B:List Rw}(h:∀n,cR A n=cR B n)(steps:List fk):jo A steps=jo B steps:=by
 unfold jo;simp only[h]
theorem sD{A B:List Rw}(h:∀n,cR A n=cR B n)(l:List St)(n:Nat)(s:St):bP l n s A=bP l n s B:=by
 unfold bP gi;rw[uQ h]
theorem wi(l:List St)(n:Nat)(s:St)(k:Nat):bP l n s (fh l k)=bP l n s (aK l k):=sD (fun _=>Dl _ _ _) l n s
theorem jm(A M B:List Value)(i j:Nat)(v:Value)(hi:i=A.length+j)(hj:j<M.length):(A++(M++B)).set i v=A++(M.set j v++B):=by
 subst hi;rw[List.set_append_right _ _ (by omega),Nat.add_sub_cancel_left,List.set_append_left _ _ hj]
theorem rN(L:List Rw)(k:Nat)(hk:k<L.length):d8 L=d8 (L.take k)++(gB L[k]++d8 (L.drop (k+1))):=by
 have e:L=L.take k++(L[k] :: L.drop (k+1)):=by rw[<-List.drop_eq_getElem_cons hk,List.take_append_drop]
 conv=>lhs;rw[e]
 unfold d8;rw[List.flatMap_append,List.flatMap_cons]
theorem EE(L:List Rw)(k:Nat)(hk:k<L.length)(r:Rw) :
  (((((((d8 L).set (k*6) (.string r.label)).set (k*6+1) (.int .i64 r.verdict)).set (k*6+2) (.int .i64 r.why)).set (k*6+3) (.string r.at_.file)).set (k*6+4) (.int .i64 r.at_.line)).set (k*6+5) (.int .i64 r.at_.col))=d8 (L.set k r):=by
 have hA:(d8 (L.take k)).length=k*6:=by rw[uV,List.length_take];congr 1;omega
 have e2:d8 (L.set k r)=d8 (L.take k)++(gB r++d8 (L.drop (k+1))):=by
  rw[rN (L.set k r) k (by simpa using hk)];simp[List.take_set,List.drop_set];rw[List.set_eq_of_length_le (by simp;omega)]
 rw[e2,rN L k hk,gB,jm _ _ _ _ 0 _ (by omega) (by simp),jm _ _ _ _ 1 _ (by omega) (by simp),jm _ _ _ _ 2 _ (by omega) (by simp),jm _ _ _ _ 3 _ (by omega) (by simp),jm _ _ _ _ 4 _ (by omega) (by simp),jm _ _ _ _ 5 _ (by omega) (by simp)];rfl
theorem aa.wide{S:List Nat}{w w':World}(k:aa [] w w'):aa S w w':=k.mono (by simp)
def uX(w:World)(g k:Nat)(r:Rw):World :=
 (((((w.setCell ⟨g,k*6,none⟩ (.string r.label)).setCell ⟨g,k*6+1,none⟩ (.int .i64 r.verdict)).setCell ⟨g,k*6+2,none⟩ (.int .i64 r.why)).setCell ⟨g,k*6+3,none⟩ (.string r.at_.file)).setCell ⟨g,k*6+4,none⟩ (.int .i64 r.at_.line)).setCell ⟨g,k*6+5,none⟩ (.int .i64 r.at_.col)
theorem lU(w:World)(g k:Nat)(r:Rw):aa [g] w (uX w g k r) :=
 ((((((aa.refl [g] w).setCell (Or.inl (by simp)) _).setCell (Or.inl (by simp)) _).setCell (Or.inl (by simp)) _).setCell (Or.inl (by simp)) _).setCell (Or.inl (by simp)) _).setCell (Or.inl (by simp)) _
theorem eR.store{w:World}{b o:Nat}{l:List St}{H:Nat->Hd}{g:Nat}{L:List Rw}(h:eR w b o l H g L)(hb:b≠g)(hg:∀x,cK H x->x≠g)(k:Nat)(hk:k<L.length)(r:Rw):eR (uX w g k r) b o l H g (L.set k r):=by
 have kk:=lU w g k r;obtain⟨arr,t,h1,h2⟩:=h.cell;refine⟨h.recd.kept kk (by simpa using hb) (fun x hx=>by simpa using hg x hx),⟨arr,t,kk.get h1 (by simpa using hb),by rw[List.length_set];exact h2⟩,?_⟩;unfold uX;rw[ae (ae (ae (ae (ae (ae h.arr _ _) _ _) _ _) _ _) _ _)];simp only[List.setIfInBounds_toArray];rw[EE L k hk r]
def nY(l:List St)(H:Nat->Hd):Nat->Hd:=fun i=>if i=6∨(10<=i/\i<10+2*l.length) then H i else⟨none,0⟩
theorem js(l:List St)(H:Nat->Hd)(j:Nat)(h:j=6∨(10<=j/\j<10+2*l.length)):nY l H j=H j:=if_pos h
theorem eU.trim{w:World}{l:List St}{H:Nat->Hd}(h:eU w l H):eU w l (nY l H)/\∀k,cK (nY l H) k->k<w.heap.size/\cK H k:=by
 refine⟨⟨?_,fun i s hs=>?_,fun i s hs=>?_⟩,?_⟩
 ·have e:il l (nY l H)=il l H:=by
   rw[<-nV l H (fun i=>if i<10+2*l.length then H i else⟨none,0⟩) (fun j hj=>if_pos hj)]
   apply qd
   intro j hj
   by_cases hl:j<10+2*l.length
   ·simp only[if_pos hl];exact js l H j (Or.inr ⟨hj,hl⟩)
   ·simp only[if_neg hl];exact if_neg (by omega)
  rw[js l H 6 (Or.inl rfl)];unfold eP;rw[e];exact h.own
 ·have hi:i<l.length:=(List.getElem?_eq_some_iff.1 hs).1
  rw[js l H (10+2*i) (by omega)];exact h.syms i s hs
 ·have hi:i<l.length:=(List.getElem?_eq_some_iff.1 hs).1
  rw[js l H (11+2*i) (by omega)];exact h.prfs i s hs
 ·rintro k ⟨i,hi⟩
  by_cases hc:i=6∨(10<=i/\i<10+2*l.length)
  ·rw[js l H i hc]at hi
   refine⟨?_,⟨i,hi⟩⟩
   rcases hc with rfl | ⟨h1,h2⟩
   ·exact h.own.lt hi
   ·by_cases hp:(i-10) % 2=0
    ·have e:i=10+2*((i-10) / 2):=by omega
     rw[e]at hi;have hl:(i-10) / 2<l.length:=by omega
     exact(h.syms _ _ (List.getElem?_eq_getElem hl)).lt hi
    ·have e:i=11+2*((i-10) / 2):=by omega
     rw[e]at hi;have hl:(i-10) / 2<l.length:=by omega
     exact(h.prfs _ _ (List.getElem?_eq_getElem hl)).lt hi
  ·have e:nY l H i=⟨none,0⟩:=if_neg hc
   rw[e]at hi;simp[Hd.blk]at hi
set_option maxRecDepth 100000 in
theorem jA(b o g:Nat)(l:List St)(H:Nat->Hd)(w:World)(h:eR w b o l H g (fh l 0))(ok:db l)(okp:∀i (hi:i<l.length),iQ l[i])(hb:b≠g)(hg:∀x,cK H x->x≠g) :
  Calls Tryz.prog 78 #[.pointer (some ⟨b,o,none⟩)] w fun e w'=>e=.returned (.tuple #[])/\eR w' b o l H g (aK l l.length)/\aa [g] w w':=by
 have hbw:=h.recd.lt;have hgw:=ac h.arr;have hlen:=ok.len;go_enter Tryz.func78,Tryz.ntmps78;go_wp2_with (go_at_call 93;refine(lZ b o l H _ (by exact h.recd) ok).mono ?_;rintro e w1 ⟨gh,K,rfl,A1,hgh,hKn,k1⟩)
 go_loopg [3] l.length (fun gk iv wr=>∃(k:Nat),k<=l.length/\gk=l.length-k/\iv=.int .i64 k/\eR wr b o l H g (fh l k)/\ed wr gh l l.length K/\aa [g] w wr)
 case atStart=>exact⟨0,by omega,by omega,rfl,h.still k1,A1,k1.wide⟩
 case round =>
  obtain⟨k,hk,hg',rfl,hR,hA,hK⟩:=hrel;have HPL:=(show Hid _ from mG l k hk);have c2:=hR.at2;rw[HPL.out]at c2
  by_cases hlt:k<l.length
  ·have HON:Hid (fD l k (aK l k)=if(l[k].kind==4)=true then⟨l[k].label,1,0,fJ⟩ else if(l[k].kind==5)=true then bP l k l[k] (fh l k) else jX):=by
    show _=_
    unfold fD;rw[List.getElem?_eq_getElem hlt,wi]
   have HNX:=(show Hid _ from zK l k hlt)
   go_upto_region 5 with (go_at_call 87;refine(aI b o k l H _ (by exact hR.recd) hlt).mono ?_;rintro e w3 ⟨rfl,k3⟩;unfold cQ)
   obtain⟨X,hX⟩:∃X,X=w3.alloc (.cells #[.int .i64 l[k].kind,.string l[k].label,.slice (H (10+2*k)).ao l[k].symbols.length (H (10+2*k)).cap,.slice (H (11+2*k)).ao l[k].proof.length (H (11+2*k)).cap,.string l[k].fin.file,.int .i64 l[k].fin.line,.int .i64 l[k].fin.col,.int .i64 l[k].til] 144):=⟨_,rfl⟩
   have kX:aa [] wr X:=by rw[hX];exact k3.alloc _
   have BX:X.heap[w3.heap.size]?=some (.cells #[.int .i64 l[k].kind,.string l[k].label,.slice (H (10+2*k)).ao l[k].symbols.length (H (10+2*k)).cap,.slice (H (11+2*k)).ao l[k].proof.length (H (11+2*k)).cap,.string l[k].fin.file,.int .i64 l[k].fin.line,.int .i64 l[k].fin.col,.int .i64 l[k].til] 144 (0,0)):=by rw[hX];exact heap_alloc_new _ _
   rw[<-hX];clear hX;have m0:X.cell? ⟨w3.heap.size,0,none⟩=some (.int .i64 l[k].kind):=by rw[ab BX];rfl
   have m1:X.cell? ⟨w3.heap.size,1,none⟩=some (.string l[k].label):=by rw[ab BX];rfl
   have RX:=hR.still kX;have AX:=hA.still kX;have KX:=hK.trans kX.wide;have hgX:=ac RX.arr;have hbX:=RX.recd.lt;have hs3:wr.heap.size<=w3.heap.size:=k3.size;have hgwr:=ac hR.arr;have hbwr:=hR.recd.lt;have hgh2:gh≠g:=by omega
   have hKn2:∀n x,(K n).blk=some x->x∉[g]:=fun n x hx=>by have:=hKn n x hx;simp;omega
   have c2X:=RX.at2;rw[HPL.out]at c2X;have hkp:k<(fh l k).length:=by rw[HPL.out];exact hlt
   obtain⟨g0,g1,g2,g3,g4,g5⟩:=RX.row k hkp;have yg:=an RX.arr;have hki:(k:Int)<l.length:=by omega
   have hne1:w3.heap.size≠g:=by omega
   have hne2:g≠w3.heap.size:=by omega
   have hne3:g≠b:=fun e=>hb e.symm
   clear c2;generalize (fh l k)[k]=old at *
   cases h4:(l[k].kind==4)
   ·cases h5:(l[k].kind==5)
    ·have HE:Hid (fh l (k+1)=fh l k):=by
      show _=_
      rw[HNX.out,HON.out,h4,h5];simp only[Bool.false_eq_true,if_false];exact Cu l k hlt
     clear HON HNX;go_wp2
     go_roundg (l.length-(k+1))
     case measure=>omega
     case rel=>exact⟨k+1,by omega,rfl,by go_num,by rw[HE.out];exact RX,AX,KX⟩
    ·have HE:Hid (fh l (k+1)=(fh l k).set k (bP l k l[k] (fh l k))):=by show _=_;rw[HNX.out,HON.out,h4,h5];rfl
     have JA:=fun(w':World) (q:aa [] X w')=>zm b o k g gh l H K (fh l k) w' (RX.still q) ok hlt (okp k hlt) (AX.still q)
     have HJA:=(show Hid _ from JA)
     have HCX:Hid (∀w',aa [] X w'->w'.cell? ⟨b,o+2,none⟩=some (.slice (some ⟨g,0,none⟩) l.length l.length)):=by
      intro w' q;have:=(RX.still q).at2;rw[HPL.out]at this;exact this
     have HRW:Hid (∀w',aa [] X w'->w'.cell? ⟨g,k*6,none⟩=some (.string old.label)/\w'.cell? ⟨g,k*6+1,none⟩=some (.int .i64 old.verdict)/\w'.cell? ⟨g,k*6+2,none⟩=some (.int .i64 old.why)/\w'.cell? ⟨g,k*6+3,none⟩=some (.string old.at_.file)/\w'.cell? ⟨g,k*6+4,none⟩=some (.int .i64 old.at_.line)/\w'.cell? ⟨g,k*6+5,none⟩=some (.int .i64 old.at_.col)/\∀n,w'.frozen? ⟨g,n,none⟩=false):=by
      intro w' q;have q2:=q.get RX.arr (by simp);refine⟨?_,?_,?_,?_,?_,?_,fun n=>an q2 n⟩
      ·rw[ab q2,<-ab RX.arr];exact g0
      ·rw[ab q2,<-ab RX.arr];exact g1
      ·rw[ab q2,<-ab RX.arr];exact g2
      ·rw[ab q2,<-ab RX.arr];exact g3
      ·rw[ab q2,<-ab RX.arr];exact g4
      ·rw[ab q2,<-ab RX.arr];exact g5
     unfold gB at HJA;clear HON HNX JA g0 g1 g2 g3 g4 g5 yg;generalize bP l k l[k] (fh l k)=r at *
     go_upto_region 8 with fail
     go_region_held3 (fun w'=>w'.cell? ⟨b,o+2,none⟩=some (.slice (some ⟨g,0,none⟩) l.length l.length)) (go_keep) (first | (go_at_call 94;refine(HJA.out _ (by exact(aa.refl [] X).drew)).mono ?_;rintro e w5 ⟨rfl,k5⟩;have x0:=HCX.out w5 ((aa.refl [] X).drew.trans k5);obtain⟨g0,g1,g2,g3,g4,g5,yg⟩:=HRW.out w5 ((aa.refl [] X).drew.trans k5)))
     all_goals
      have kk:=((aa.refl [] X).drew.trans k5);have ST:=(RX.still kk).store hb hg k hkp r;have SK:=lU w5 g k r;have AK:=(AX.still kk).kept SK (by simpa using hgh2) hKn2;have KK:=(KX.trans kk.wide).trans SK;rw[<-HE.out]at ST;unfold uX at ST SK AK KK;clear m0 m1 c2X g0 g1 g2 g3 g4 g5 yg x0;go_wp2
      go_roundg (l.length-(k+1))
      case measure=>omega
      case rel=>exact⟨k+1,by omega,rfl,by go_num,ST,AK,KK⟩
   ·have h5:(l[k].kind==5)=false:=by have:=eq_of_beq h4;rw[this];rfl
    have HE:Hid (fh l (k+1)=(fh l k).set k ⟨l[k].label,1,0,fJ⟩):=by show _=_;rw[HNX.out,HON.out,h4];rfl
    clear HON HNX
    go_upto_region 6 with fail
    go_region
    all_goals
     have ST:=RX.store hb hg k hkp ⟨l[k].label,1,0,fJ⟩;have SK:=lU X g k ⟨l[k].label,1,0,fJ⟩;have AK:=AX.kept SK (by simpa using hgh2) hKn2;have KK:=KX.trans SK;rw[<-HE.out]at ST;unfold uX at ST SK AK KK;simp only[fJ]at ST AK KK;clear m1 c2X g0 g1 g2 g3 g4 g5 yg SK;go_wp2
     go_roundg (l.length-(k+1))
     case measure=>omega
     case rel=>exact⟨k+1,by omega,rfl,by go_num,ST.still (aa.refl [] _).drew,AK.still (aa.refl [] _).drew,KK.drew⟩
  ·have e:k=l.length:=by omega
   subst e;rw[Ct]at hR;go_wp2;go_end0;exact⟨rfl,hR,hK⟩
theorem jl(l m:List St)(n a:Nat)(h:a<=l.length):b7 (l++m) n a=b7 l n a:=by
  unfold b7
  rcases Nat.lt_or_ge n l.length with hn | hn
  · rw[List.getElem?_append_left hn]
  · rw[List.getElem?_eq_none (l:=l) hn]
    cases e:(l++m)[n]? with
    | none=>rfl
    | some s =>
      have hd:decide (n<a)=false:=decide_eq_false (by omega)
      show(decide (n<a)&&_)=false
      rw[hd];rfl
theorem kf(l:List St)(n a:Nat)(h:a<=n):b7 l n a=false:=by
  unfold b7
  cases e:l[n]? with
  | none=>rfl
  | some s =>
    have hd:decide (n<a)=false:=decide_eq_false (by omega)
    show(decide (n<a)&&_)=false
    rw[hd];rfl
theorem ke(N k:Nat)(p q:Nat->Bool)(h:∀n,n<N->p n=q n)(h2:∀n,N<=n->p n=false):(List.range (N+k)).filter p=(List.range N).filter q:=by
  induction k with
  | zero=>exact List.filter_congr (fun x hx=>h x (by simpa using hx))
  | succ k ih =>
    rw[<-Nat.add_assoc,List.range_succ,List.filter_append,ih];simp[h2 (N+k) (by omega)]
theorem BM{α:Type}(l:List Nat)(p q:Nat->Option α)(h:∀x∈l,p x=q x):l.filterMap p=l.filterMap q:=by
  induction l with
  | nil=>rfl
  | cons x r ih=>rw[List.filterMap_cons,List.filterMap_cons,h x (by simp),ih (fun y hy=>h y (List.mem_cons_of_mem _ hy))]
theorem oQ{α:Type}(N k:Nat)(p q:Nat->Option α)(h:∀n,n<N->p n=q n)(h2:∀n,N<=n->p n=none):(List.range (N+k)).filterMap p=(List.range N).filterMap q:=by
  induction k with
  | zero=>exact BM _ _ _ (fun x hx=>h x (by simpa using hx))
  | succ k ih =>
    rw[<-Nat.add_assoc,List.range_succ,List.filterMap_append,ih];simp[h2 (N+k) (by omega)]
theorem yX(N k:Nat)(p q:Nat->Bool)(h:∀n,n<N->p n=q n)(h2:∀n,N<=n->p n=false):(List.range (N+k)).find? p=(List.range N).find? q:=by
  rw[<-List.head?_filter,<-List.head?_filter,ke N k p q h h2]
theorem oR(l m:List St)(t:ByteArray)(a:Nat)(h:a<=l.length):ft (l++m) t a=ft l t a:=by
  unfold ft;rw[List.length_append];refine yX _ _ _ _ (fun n hn=>?_) (fun n hn=>?_)
  · unfold ic;rw[List.getElem?_append_left hn,jl l m n a h]
  · unfold ic
    cases e:(l++m)[n]? with
    | none=>rfl
    | some s=>simp only;rw[kf _ n a (by omega),Bool.and_false]
theorem nD(l m:List St)(n:Nat)(h:n<l.length):bS (l++m) n=bS l n:=by
  unfold bS;rw[List.getElem?_append_left h]
theorem vh(l m:List St)(a:Nat)(h:a<l.length):cc (l++m) a=cc l a:=by
  unfold cc cO;rw[List.length_append,ke l.length m.length (oc (l++m) a) (oc l a),nD l m a h]
  · congr 1
    rw[List.flatMap_def,List.flatMap_def]
    congr 1
    refine List.map_congr_left (fun x hx=>nD l m x ?_);have:=(List.mem_filter.1 hx).1;simpa using this
  · intro n hn;unfold oc;rw[List.getElem?_append_left hn,jl l m n a (by omega)]
  · intro n hn
    unfold oc
    cases e:(l++m)[n]? with
    | none=>rfl
    | some s=>simp only;rw[kf _ n a (by omega),Bool.and_false]
theorem nc(l m:List St)(a:Nat)(h:a<l.length):aq (l++m) a=aq l a:=by
  unfold aq cd;rw[List.length_append,vh l m a h];refine ke _ _ _ _ (fun n hn=>?_) (fun n hn=>?_)
  · unfold gn;rw[List.getElem?_append_left hn,jl l m n a (by omega)]
  · unfold gn
    cases e:(l++m)[n]? with
    | none=>rfl
    | some s=>simp only;rw[kf _ n a (by omega),Bool.false_and]
theorem sH(l m:List St)(a:Nat)(h:a<l.length)(vs:List ByteArray)(k:Nat)(hk:k<=l.length):bA (l++m) a vs k=bA l a vs k:=by
  induction k with
  | zero=>rfl
  | succ k ih =>
    have e:jg (l++m) a k=jg l a k:=by unfold jg;rw[List.getElem?_append_left (by omega),jl l m k a (by omega)]
    rw[bA,bA,e,ih (by omega),nD l m k (by omega)]
theorem pA(l m:List St)(a:Nat)(h:a<l.length)(vs:List ByteArray):ce (l++m) a vs=ce l a vs:=by
  unfold ce;rw[List.length_append];generalize m.length=k
  induction k with
  | zero=>exact sH l m a h vs l.length (Nat.le_refl _)
  | succ k ih =>
    rw[<-Nat.add_assoc,bA,if_neg,ih]
    have:jg (l++m) a (l.length+k)=false:=by
      unfold jg
      cases e:(l++m)[l.length+k]? with
      | none=>rfl
      | some s=>simp only;rw[kf _ _ a (by omega),Bool.and_false]
    rw[this];simp
theorem DG(l m:List St)(a:Nat)(h:a<l.length):jM (l++m) a=jM l a:=by
  unfold jM jU;rw[List.length_append];refine oQ _ _ _ _ (fun n hn=>?_) (fun n hn=>?_)
  · unfold f7;rw[List.getElem?_append_left hn,jl l m n a (by omega)]
  · unfold f7
    cases e:(l++m)[n]? with
    | none=>rfl
    | some s=>simp only;rw[kf _ n a (by omega)];simp
theorem vJ(l m:List St)(a:Nat)(h:a<l.length)(fin:Pl)(ws:List (ByteArray×Pl)):∀i ns,bB (l++m) a fin i ws ns=bB l a fin i ws ns:=by
  induction ws with
  | nil=>intro i ns;rfl
  | cons x r ih =>
    intro i ns;obtain⟨t,p⟩:=x;rw[bB,bB,oR l m t a (by omega)];simp only[ih]
theorem zI(l m:List St)(a:Nat)(h:a<l.length)(fin:Pl)(ws:List (ByteArray×Pl)):∀acc,bM (l++m) a fin ws acc=bM l a fin ws acc:=by
  induction ws with
  | nil=>intro acc;rfl
  | cons x r ih =>
    intro acc;obtain⟨t,p⟩:=x;rw[bM,bM,oR l m t a (by omega)];simp only[ih]
theorem CB(l m:List St)(a:Nat)(h:a<l.length)(s:St):bR (l++m) a s=bR l a s:=by
  unfold bR fH mh;rw[zI l m a h,nc l m a h,vJ l m a h]
theorem mZ(l m:List St)(n:Nat)(h:n<l.length):(l++m).getD n dD=l.getD n dD:=by
  rw[List.getD_eq_getElem?_getD,List.getD_eq_getElem?_getD,List.getElem?_append_left h]
theorem tW(l m:List St)(hs:List Nat)(h:∀x∈hs,x<l.length):∀es S,cS (l++m) hs es S=cS l hs es S:=by
  induction hs with
  | nil=>intro es S;simp[cS]
  | cons x r ih =>
    intro es S
    cases es with
    | nil=>simp[cS]
    | cons e es =>
      rw[cS,cS,mZ l m x (h x (by simp))];simp only[ih (fun y hy=>h y (by simp[hy]))]
theorem zo(l m:List St)(n:Nat)(h:n<l.length)(S:Bg)(vs:List ByteArray)(ms:List Bool):lw (l++m) n S vs ms=lw l n S vs ms:=by
  unfold lw jQ;rw[pA l m n h]
theorem vD(l m:List St)(n:Nat)(h:n<l.length)(vs:List ByteArray)(ms:List Bool)(th:List (List ByteArray)):dx (l++m) n vs ms th=dx l n vs ms th:=by
  unfold dx j7;rw[nc l m n h,mZ l m n h,tW l m _ (fun x hx=>oY hx)];simp only[zo l m n h]
theorem Aj(l m:List St)(vs:List ByteArray)(ms:List Bool)(sh th:List (List ByteArray))(s:fk)(h:(s.kind==3)=false->s.number<l.length):dr (l++m) vs ms sh th s=dr l vs ms sh th s:=by
  unfold dr
  cases hk:(s.kind==3) with
  | true=>rfl
  | false =>
    have hn:=h hk;have e:dW (l++m) s.number=dW l s.number:=by unfold dW;rw[List.getElem?_append_left hn]
    rw[e,vD l m _ hn,nc l m _ hn,mZ l m _ hn]
theorem sN(l m:List St)(vs:List ByteArray)(ms:List Bool)(fin:Pl)(goal:List ByteArray)(steps:List fk)(h:∀s∈steps,(s.kind==3)=false->s.number<l.length) :
    ∀S,dC (l++m) vs ms fin goal steps S=dC l vs ms fin goal steps S:=by
  induction steps with
  | nil=>intro S;rfl
  | cons s r ih =>
    intro S;have e:fn (l++m) vs ms S s=fn l vs ms S s:=by unfold fn;rw[Aj l m vs ms S.1 S.2 s (h s (by simp))]
    rw[dC,dC,e];simp only[ih (fun y hy=>h y (by simp[hy]))]
theorem wj(l m:List St)(n:Nat)(ok:db l)(hn:n<l.length)(okp:iQ l[n])(L:List Rw):bP (l++m) n l[n] L=bP l n l[n] L:=by
  unfold bP b8;rw[CB l m n hn,DG l m n hn,pA l m n hn,sN l m _ _ _ _ _ (sP l n ok hn okp).named]
theorem Cs(l m:List St)(n:Nat)(ok:db l)(hn:n<l.length)(okp:iQ l[n])(L:List Rw):fD (l++m) n L=fD l n L:=by
  unfold fD;rw[List.getElem?_append_left hn,List.getElem?_eq_getElem hn];simp only[wj l m n ok hn okp]
theorem EO(l m:List St)(ok:db l)(okp:∀i (hi:i<l.length),iQ l[i])(k:Nat)(hk:k<=l.length):aK (l++m) k=aK l k:=by
  induction k with
  | zero=>rfl
  | succ k ih=>rw[aK,aK,ih (by omega),Cs l m k ok (by omega) (okp k (by omega))]
def eY(l:List St):List Rw:=(aK l l.length).filter (fun r=>!(r.verdict==0))
theorem Aa(l m:List St)(ok:db l)(okp:∀i (hi:i<l.length),iQ l[i]):∃t,eY (l++m)=eY l++t:=by
  have h:∀k,∃t,aK (l++m) (l.length+k)=aK l l.length++t:=by
    intro k
    induction k with
    | zero=>exact⟨[],by rw[Nat.add_zero,EO l m ok okp _ (Nat.le_refl _)];simp⟩
    | succ k ih =>
      obtain⟨t,ht⟩:=ih
      exact⟨_,by rw[<-Nat.add_assoc,aK];(conv=>lhs;arg 1;rw[ht]);rw[List.append_assoc]⟩
  obtain⟨t,ht⟩:=h m.length;refine⟨t.filter (fun r=>!(r.verdict==0)),?_⟩;unfold eY;rw[List.length_append,ht,List.filter_append]
theorem uo:dI fJ:=by unfold dI fJ;simp
theorem iB:dI bT.2:=by unfold dI bT;simp
theorem wB{p:Pl}(h:dI p)(c:Int):dI { p with col:=c }:=h
theorem Em(l:List St)(a:Nat)(fin:Pl)(hf:dI fin)(ws:List (ByteArray×Pl))(hw:∀x∈ws,dI x.2):∀acc,(∀s∈acc,dI s.at_)->(∀s∈(bM l a fin ws acc).1,dI s.at_)/\dI (bM l a fin ws acc).2.2:=by
 induction ws with
 | nil =>
  intro acc ha;rw[bM]
  split
  ·exact⟨by simp,hf⟩
  ·exact⟨ha,iB⟩
 | cons x r ih =>
  intro acc ha;obtain⟨t,p⟩:=x;have hp:=hw (t,p) (by simp);have hr:=fun y hy=>hw y (List.mem_cons_of_mem _ hy)
  have hacc:∀k n,∀s∈acc++[(⟨k,n,p⟩:fk)],dI s.at_:=by
   intro k n s hs
   rcases List.mem_append.1 hs with hs | hs
   ·exact ha s hs
   ·rw[List.mem_singleton.1 hs];exact hp
  rw[bM]
  split
  ·exact ih hr _ (hacc _ _)
  ·split
   ·exact⟨by simp,hp⟩
   ·exact ih hr _ (hacc _ _)
theorem Br(l:List St)(a:Nat)(fin:Pl)(hf:dI fin)(ws:List (ByteArray×Pl))(hw:∀x∈ws,dI x.2):∀i ns,dI (bB l a fin i ws ns).1.2.2:=by
 induction ws with
 | nil=>intro i ns;exact hf
 | cons x r ih =>
  intro i ns;obtain⟨t,p⟩:=x;have hp:=hw (t,p) (by simp);rw[bB]
  split
  ·exact iB
  ·split
   ·exact hp
   ·split
    ·exact hp
    ·exact ih (fun y hy=>hw y (List.mem_cons_of_mem _ hy)) _ _
def nH(c:gG):Prop:=∀s∈c.steps,dI s.at_
theorem vC{c:gG}(h:nH c)(s:fk)(hs:dI s.at_):∀x∈c.steps++[s],dI x.at_:=by
 intro x hx
 rcases List.mem_append.1 hx with hx | hx
 ·exact h x hx
 ·rw[List.mem_singleton.1 hx];exact hs
theorem Cc{c:gG}(h:nH c)(n:Nat)(p:Pl)(hp:dI p):nH (aY c n p).2:=by
 unfold aY
 split
 ·unfold fc
  split
  ·exact vC h _ hp
  ·split
   ·exact vC h _ hp
   ·exact h
 ·split
  ·unfold gC;split <;> exact h
  ·split
   ·exact h
   ·split
    ·exact vC h _ hp
    ·exact h
theorem EU(t:ByteArray)(p:Pl)(hp:dI p)(f:Nat):∀j c,nH c->nH (cX t p f j c).2/\dI (cX t p f j c).1.2:=by
 induction f with
 | zero=>intro j c h;exact⟨h,iB⟩
 | succ f ih =>
  intro j c h;rw[cX]
  split
  ·split
   ·exact ih _ _ (Cc h _ _ (wB hp _))
   ·exact⟨Cc h _ _ (wB hp _),wB hp _⟩
  ·exact⟨h,iB⟩
theorem Dp(ws:List (ByteArray×Pl))(hw:∀x∈ws,dI x.2):∀c,nH c->nH (gT ws c).2/\dI (gT ws c).1.2:=by
 induction ws with
 | nil=>intro c h;exact⟨h,iB⟩
 | cons x r ih =>
  intro c h;obtain⟨t,p⟩:=x;have h1:=EU t p (hw (t,p) (by simp)) (t.size+1) 0 c h;rw[gT]
  split
  ·exact ih (fun y hy=>hw y (List.mem_cons_of_mem _ hy)) _ h1.1
  ·exact h1
theorem Fv(l:List St)(a:Nat)(s:St)(hf:dI s.fin)(hw:∀x∈s.proof,dI x.2):(∀x∈(bR l a s).1,dI x.at_)/\dI (bR l a s).2.2:=by
 unfold bR
 split
 ·unfold fH
  have hR:nH (mh l a s).2/\dI (mh l a s).1.2:=by
   unfold mh vu
   split
   ·exact Dp _ (fun y hy=>hw y (List.mem_of_mem_drop hy)) _ (by intro x hx;cases hx)
   ·exact⟨(by intro x hx;cases hx),Br l a s.fin hf _ (fun y hy=>hw y (List.mem_of_mem_drop hy)) _ _⟩
  unfold j9
  split
  ·split
   ·split
    ·exact⟨by simp,hf⟩
    ·exact⟨hR.1,iB⟩
   ·exact⟨by simp,hf⟩
  ·exact⟨by simp,hR.2⟩
 ·exact Em l a s.fin hf s.proof hw [] (by simp)
theorem Et(l:List St)(vs:List ByteArray)(ms:List Bool)(fin:Pl)(hf:dI fin)(goal:List ByteArray)(steps:List fk)(h:∀x∈steps,dI x.at_):∀S,dI (dC l vs ms fin goal steps S).2:=by
 induction steps with
 | nil =>
  intro S;rw[dC];unfold yj
  split
  ·exact hf
  ·split
   ·exact iB
   ·exact hf
  ·exact hf
 | cons s r ih =>
  intro S;rw[dC]
  split
  ·exact ih (fun y hy=>h y (List.mem_cons_of_mem _ hy)) _
  ·exact h s (by simp)
theorem Ca(l:List St)(n:Nat)(s:St)(L:List Rw)(hf:dI s.fin)(hw:∀x∈s.proof,dI x.2):dI (bP l n s L).at_:=by
 have hp:=Fv l n s hf hw;unfold bP
 have hfl:dI (if(nF (bR l n s).1).isNone=true/\((bR l n s).2.1==0)=true then b8 l n s (bR l n s).1 else(bR l n s).2).2:=by
  split
  ·exact Et _ _ _ _ hf _ _ hp.1 _
  ·exact hp.2
 generalize (if(nF (bR l n s).1).isNone=true/\((bR l n s).2.1==0)=true then b8 l n s (bR l n s).1 else(bR l n s).2)=f at *;unfold gi
 split
 ·split
  ·next u hu =>
   show dI (((bR l n s).1[u]?).map fk.at_ |>.getD fJ)
   cases e:(bR l n s).1[u]? with
   | none=>exact uo
   | some x=>exact hp.1 x (List.mem_of_getElem? e)
  ·split <;> exact uo
 ·exact hfl
theorem Gt(l:List St)(h:EY l)(k:Nat):∀r∈aK l k,dI r.at_:=by
 induction k with
 | zero=>intro r hr;cases hr
 | succ k ih =>
  intro r hr;rw[aK]at hr
  rcases List.mem_append.1 hr with hr | hr
  ·exact ih r hr
  ·rw[List.mem_singleton.1 hr]
   unfold fD
   split
   ·next s hs =>
    have hm:=h s (List.mem_of_getElem? hs)
    split
    ·exact uo
    ·split
     ·exact Ca l k s _ hm.1 hm.2
     ·exact uo
   ·exact uo
theorem Bc.rows{l:List St}(h:Bc l):xI (eY l):=by
 refine⟨?_,fun r hr=>Gt l h.lns _ r (List.mem_filter.1 hr).1⟩;have h1:=List.length_filter_le (fun r:Rw=>!(r.verdict==0)) (aK l l.length);rw[gM]at h1;have:=h.ok.len;unfold eY;omega
def bj(T:ByteArray):List Rw:=eY (bC T).2.sts
theorem Ac(T c:ByteArray)(hT:iq T):∃m,bj (T++⟨#[10]⟩++c)=bj T++m:=by
 obtain⟨m,hm⟩:=Ck T c hT;have g:=iW T hT.size hT.inc;unfold bj;rw[hm];exact Aa _ m g.ok g.prf
end Go.Proofs.YtlbhbocbakijbaaGreat
