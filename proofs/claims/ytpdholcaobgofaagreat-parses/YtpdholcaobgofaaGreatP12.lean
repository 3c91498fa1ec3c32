import Derived.Deep.RegionHeld3
import Derived.Laws.OwnMore
import Derived.Test.YtpdholcaobgofaaGreatP11
namespace Go.Proofs.YtpdholcaobgofaaGreat
open Go.RowKit Tryz
open Value IntKind Ending
set_option maxHeartbeats 0
variable{f y s:World}{S M:Nat}{zt:Fs}{g:List St}{y0:Nat->Hd}{z7:Xu}{y1:Xr}{v z4 z6:Hd}{o y2:eD}{z8:List Bool}(zf:World)(L x:Nat)(y3 y4 y5 y6:Value)(T:Nat)(I:Fs)(m:Xr)(w:List St)(i:Nat->Hd)(n:Xu)(z5:Hd)(b:Xs)(D:List Bool)(k:Nat)(N:Xr)(H:World)(l:Nat)
theorem Ov:madeCells (agg #[string ⟨#[]⟩,int i64 0,int i64 0,string ⟨#[]⟩,int i64 0,int i64 0]).cells (l*6)=(mF (List.replicate l tO)).toArray:=by
  have k:(agg #[string ⟨#[]⟩,int i64 0,int i64 0,string ⟨#[]⟩,int i64 0,int i64 0]).cells=(pm tO).toArray:=by rfl
  rw[k];apply Array.ext
  · rw[YJ];simp[IG]
  · intro i f g
    rw[YJ]at f;have n:i / 6<(List.replicate l tO).length:=by simp;omega
    have e:=M3 (List.replicate l tO) (i / 6) n (i % 6) (by omega);have d:i / 6*6+i % 6=i:=(by omega);have a:(List.replicate l tO)[i / 6]=tO:=(by simp);rw[d,a]at e;have j:i<(mF (List.replicate l tO)).length:=by simpa using g
    have b:(mF (List.replicate l tO)).toArray[i]=(mF (List.replicate l tO))[i]:=(by simp);rw[b];have c:some (mF (List.replicate l tO))[i]=(pm tO)[i % 6]?:=by rw[<-e,Xv j]
    have p:some (madeCells (pm tO).toArray (l*6))[i]=(pm tO)[i % 6]?:=by
      have m:i % 6=0∨i % 6=1∨i % 6=2∨i % 6=3∨i % 6=4∨i % 6=5:=(by omega);have o:(pm tO).toArray.size=6:=rfl;simp only[madeCells,Array.getElem_map,Array.getElem_range,o];rcases m with h | h | h | h | h | h <;> rw[h] <;> rfl
    exact Zaj (p.trans c.symm)
theorem SA:lr w 0=List.replicate w.length tO:=by simp[lr,mt]
theorem tI(h:aa [] f y)(b:f.heap.size<=S)(a:f.heap.size<=M)(c d e g i j k:Value) :
    aa [] f (((((((y.setCell ⟨S,0,none⟩ c).setCell ⟨S,1,none⟩ d).setCell ⟨S,2,none⟩ e).setCell ⟨M,0,none⟩ g).setCell ⟨M,1,none⟩ i).setCell ⟨M,2,none⟩ j).setCell ⟨M,3,none⟩ k) :=
  ((((((h.setCell (XK b) _).setCell (XK b) _).setCell (XK b) _).setCell (XK a) _).setCell (XK a) _).setCell (XK a) _).setCell (XK a) _
theorem wU(a b c:Value) :
    aa [L,x] zf (((((((zf.setCell ⟨L,0,none⟩ y3).setCell ⟨L,1,none⟩ y4).setCell ⟨L,2,none⟩ y5).setCell ⟨x,0,none⟩ y6).setCell ⟨x,1,none⟩ a).setCell ⟨x,2,none⟩ b).setCell ⟨x,3,none⟩ c) :=
  (((((((aa.refl [L,x] zf).sl1 _).sl1 _).sl1 _).sl1 _).sl1 _).sl1 _).sl1 _
def Jv(fs:Fs)(k0:Nat)(w:World)(e:Ending)(w':World):Prop :=
  (if((cK fs k0).1.1==0)=true then ∃(H:Nat->Hd) (g:Nat) (a7:Xt) (n7 c7:Nat),
      e=returned (tuple #[agg #[slice (H 6).ao (cK fs k0).2.2.Zbv.length (H 6).cap,slice a7 n7 c7,slice (some ⟨g,0,none⟩) (cK fs k0).2.2.Zbv.length (cK fs k0).2.2.Zbv.length],jh dJ]) /\
      iY w' (cK fs k0).2.2.Zbv H/\w'.heap[g]?=some (.cells (mF (mt (cK fs k0).2.2.Zbv (cK fs k0).2.2.Zbv.length)).toArray 38)/\(∀k,eG H k->w.heap.size<=k)/\w.heap.size<=g
   else e=returned (tuple #[agg #[slice none 0 0,slice none 0 0,slice none 0 0],jh (cK fs k0).1]))/\aa [] w w'
set_option maxRecDepth 100000
theorem zaY(G:List Value)(w:World)(ht:bO w L x I G)(ap:T<I.length)(al:∀j,j<I.length->(ak I j).size<=1024) :
    Calls prog 52 #[pointer (some ⟨L,0,none⟩),int i64 T] w fun e s=>Jv I T w e s:=by
  obtain⟨i0,hi,ar,av,ax⟩:=XV zb1;have Y:Xq _:=Iv I al T;obtain⟨W,hW⟩:∃W,W=(w.alloc (.cells #[slice none 0 0,slice none 0 0,slice none 0 0] 78)).alloc (.cells #[int i64 0,string ⟨#[]⟩,int i64 0,int i64 0] 87):=⟨_,rfl⟩
  have hK:aa [] w W:=by rw[hW];exact(bH.alloc _).alloc _
  have hA:W.heap[w.heap.size]?=some (.cells #[slice none 0 0,slice none 0 0,slice none 0 0] 78):=by
    rw[hW];exact(bH.alloc _).get (XD _ _) (by simp)
  have hF:W.heap[w.heap.size+1]?=some (.cells bM 87):=by
    rw[hW];have e:(w.alloc (.cells #[slice none 0 0,slice none 0 0,slice none 0 0] 78)).heap.size=w.heap.size+1:=by simp
    rw[<-e];exact XD _ _
  have HW:Xq _:=hW.symm;have RD:=Tb L x T I G W (ht.Zbw hK (by simp)) ap al;have ad:Xq _:=RD;clear RD hW;unfold Jv;generalize cK I T=R at *;obtain⟨⟨r,pf,pl,pc⟩,a4,d'⟩:=R;simp only[jh,dJ]at ad Y ⊢;generalize d'.Zbv=l at *;generalize d'.rbl=rb at *;go_enter func52,ntmps52;go_wp2_with fail;rw[HW.o];refine Xx ad.o ?_;rintro e a ⟨d,t⟩;have N:=t.get hA (by simp);have O:=t.get hF (by simp);have hz:=t.size;have a5:=ah hF;cases hr:(r==0)
  · have aq:(r != 0)=true:=by simp[bne,hr]
    simp only[hr,Bool.false_eq_true,if_false]at d ⊢;subst d;obtain⟨a0,a1,a2⟩:=zT N;obtain⟨z0,z1,z2,z3⟩:=dh O;have ya:=zcW N;have yf:=zcW O;have v:=ah N;have y:=ah O;go_wp2_with fail;go_region
    all_goals go_wp2
    all_goals exact XG (v:=tuple #[agg #[slice none 0 0,slice none 0 0,slice none 0 0],agg #[int i64 r,string pf,int i64 pl,int i64 pc]]) (by simp[results,results52,go_sem,a0,a1,a2,z0,z1,z2,z3,v,y]) rfl ⟨rfl,(((tI (hK.trans t) (Xy _) (ZU _) _ _ _ _ _ _ _).alloc _).alloc _).drew⟩
  · have aq:(r != 0)=false:=by simp[bne,hr]
    simp only[hr,if_true]at d ⊢;obtain⟨F,rfl,ai,ag⟩:=d;obtain⟨hS,hT⟩:=ai.trim;have af:F 6=yO l F 6:=(qT l F 6 (XQ rfl)).symm;rw[af];have hN:∀k,eG (yO l F) k->k<a.heap.size/\w.heap.size+2<=k:=fun k n=>⟨(hT k n).1,by have:=ag k (hT k n).2;omega⟩
    clear ai ag hT af;generalize yO l F=H at *;generalize (F 7).ao=f at *;generalize (F 7).cap=g at *;generalize rb.length=m at *;clear F;have Z:Xq _:=hN;have aT:=Y.o.ok.len;obtain⟨c,z⟩:∃c,c=(a.alloc (.cells #[slice (H 6).ao l.length (H 6).cap,slice f m g] 76)).alloc (.cells #[int i64 0,string ⟨#[]⟩,int i64 0,int i64 0] 87):=⟨_,rfl⟩
    have k3:aa [] a c:=(by rw[z];exact(bH.alloc _).alloc _);have B3:c.heap[a.heap.size]?=some (.cells #[slice (H 6).ao l.length (H 6).cap,slice f m g] 76):=by
      rw[z];exact(bH.alloc _).get (XD _ _) (by simp)
    have E:c.heap.size=a.heap.size+2:=(by rw[z];simp);have Q:=hS.Zbj k3;have R3:dQ c a.heap.size 0 l H:=⟨⟨_,_,B3,rfl⟩,Q⟩;obtain⟨r0,r1⟩:=uY B3;have am:Xq (∀s,aa [] c s->Calls prog 79 #[pointer (some ⟨a.heap.size,0,none⟩)] s fun e az=>e=returned (int i64 l.length)/\az=s):=fun s q=>fn a.heap.size 0 l H s (R3.Zbj q);have a3:Xq (∀s,aa [] c s->s.cell? ⟨a.heap.size,0,none⟩=some (slice (H 6).ao l.length (H 6).cap)/\s.cell? ⟨a.heap.size,1,none⟩=some (slice f m g)):=fun s q=>by
      have q2:=q.get B3 (by simp);exact⟨by rw[ab q2];rfl,by rw[ab q2];rfl⟩
    have m1:=fun w=>bY (P:=prog) w 54 38 i0 _ underlying54 hi ar l.length 6 av (by rw[ax];omega) (by omega);obtain⟨A,S⟩:∃A,A=madeCells (agg #[string ⟨#[]⟩,int i64 0,int i64 0,string ⟨#[]⟩,int i64 0,int i64 0]).cells (l.length*6):=⟨_,rfl⟩
    have ac:Xq (A=(mF (lr l 0)).toArray):=cm (by rw[S,Ov,SA]);rw[<-S]at m1;clear S hN hS;have an:Xq _:=z.symm;clear z;(go_upto_region 4 with fail);rw[an.o];go_region_held3 (fun s=>s.cell? ⟨a.heap.size,0,none⟩=some (slice (H 6).ao l.length (H 6).cap)/\s.cell? ⟨a.heap.size,1,none⟩=some (slice f m g)) (go_keep) (first | (go_at_call 79;refine(am.o _ (by first | exact(aa.refl [] c).drew | exact((aa.refl [] c).alloc _).drew | exact(aa.refl [] c).drew.alloc _)).mono ?_;rintro e wc ⟨rfl,U⟩;rw[U]))
    · obtain⟨p,b⟩:∃p,p=((c.alloc (.cells A 38)).alloc (.cells #[slice (H 6).ao l.length (H 6).cap,slice f m g,slice (some ⟨a.heap.size+2,0,none⟩) l.length l.length] 78)).drew:=⟨_,rfl⟩
      have k4:aa [] c p:=(by rw[b];exact((bH.alloc _).alloc _).drew);have C:p.heap[a.heap.size+2+1]?=some (.cells #[slice (H 6).ao l.length (H 6).cap,slice f m g,slice (some ⟨a.heap.size+2,0,none⟩) l.length l.length] 78):=by
        rw[b];have e1:(c.alloc (.cells A 38)).heap.size=a.heap.size+2+1:=by simp[E]
        have e:=XD (c.alloc (.cells A 38)) (.cells #[slice (H 6).ao l.length (H 6).cap,slice f m g,slice (some ⟨a.heap.size+2,0,none⟩) l.length l.length] 78);rw[e1]at e;exact bH.drew.get e (by simp)
      have G4:p.heap[a.heap.size+2]?=some (.cells (mF (lr l 0)).toArray 38):=by
        rw[b,<-ac.o];have e:=((aa.refl [] (c.alloc (.cells A 38))).alloc (.cells #[slice (H 6).ao l.length (H 6).cap,slice f m g,slice (some ⟨a.heap.size+2,0,none⟩) l.length l.length] 78)).drew.get (XD _ _) (by simp);rw[E]at e;exact e
      rw[<-b];clear b;have RP:mK p (a.heap.size+2+1) 0 l H (a.heap.size+2) (lr l 0):=⟨⟨⟨_,_,C,rfl⟩,Q.Zbj k4⟩,⟨_,_,C,by rw[AH l 0 (XX _)];rfl⟩,G4⟩;have HJ:Xq _:=(wB (a.heap.size+2+1) 0 (a.heap.size+2) l H p RP Y.o.ok Y.o.prf (by omega) (fun aS hx=>by have:=Z.o aS hx;omega));have V:=(t.trans k3).trans k4;have A4:=V.get hA (by simp);have F4:=V.get hF (by simp);clear RP U;go_wp2_with fail;refine Xx HJ.o ?_;rintro e X ⟨rfl,M,i⟩;have B5:=i.get C (by simp);have B:=i.get A4 (by simp;omega);have D:=i.get F4 (by simp;omega);obtain⟨b0,b1,b2⟩:=zT B5;obtain⟨a0,a1,a2⟩:=zT B;obtain⟨z0,z1,z2,z3⟩:=dh D;have ya:=zcW B;have yf:=zcW D;have v:=ah B;have y:=ah D;have KW:aa [] w X:=by
        have q:=(hK.trans V);exact⟨i.os.trans q.os,i.tape.trans q.tape,i.output.trans q.output,XF q.size i.size,fun k n _=>(i.block k (XB n q.size) (by simp;omega)).trans (q.block k n (by simp))⟩
      have KS:=wU X w.heap.size (w.heap.size+1);have K:Xq (iY X l H):=M.recd.Zbv;have J:Xq _:=M.arr;have u:Xq _:=KS;clear M KS B5 B D C A4 F4 G4;go_wp2;exact XG (v:=tuple #[agg #[slice (H 6).ao l.length (H 6).cap,slice f m g,slice (some ⟨a.heap.size+2,0,none⟩) l.length l.length],agg #[int i64 0,string ⟨#[]⟩,int i64 0,int i64 0]]) (by simp[results,results52,go_sem,a0,a1,a2,z0,z1,z2,z3]) rfl
        ⟨⟨H,a.heap.size+2,⟨f,m,g,rfl⟩,K.o.Zbw (u.o _ _ _ _ _ _ _) (fun k n=>by have:=Z.o k n;simp;omega),(u.o _ _ _ _ _ _ _).get J.o (by simp;omega),fun k n=>by have:=Z.o k n;omega,by omega⟩,tI KW (Xy _) (ZU _) _ _ _ _ _ _ _⟩
    all_goals
      obtain⟨p,b⟩:∃p,p=((c.alloc (.cells #[slice (H 6).ao l.length (H 6).cap,slice f m g,slice (some ⟨a.heap.size+2+1,0,none⟩) l.length l.length] 78)).alloc (.cells A 38)).drew:=⟨_,rfl⟩
      have k4:aa [] c p:=(by rw[b];exact((bH.alloc _).alloc _).drew);have C:p.heap[a.heap.size+2]?=some (.cells #[slice (H 6).ao l.length (H 6).cap,slice f m g,slice (some ⟨a.heap.size+2+1,0,none⟩) l.length l.length] 78):=by
        rw[b];have e:=((aa.refl [] (c.alloc (.cells #[slice (H 6).ao l.length (H 6).cap,slice f m g,slice (some ⟨a.heap.size+2+1,0,none⟩) l.length l.length] 78))).alloc (.cells A 38)).drew.get (XD _ _) (by simp);rw[E]at e;exact e
      have G4:p.heap[a.heap.size+2+1]?=some (.cells (mF (lr l 0)).toArray 38):=by
        rw[b,<-ac.o];have e1:(c.alloc (.cells #[slice (H 6).ao l.length (H 6).cap,slice f m g,slice (some ⟨a.heap.size+2+1,0,none⟩) l.length l.length] 78)).heap.size=a.heap.size+2+1:=by simp[E]
        have e:=XD (c.alloc (.cells #[slice (H 6).ao l.length (H 6).cap,slice f m g,slice (some ⟨a.heap.size+2+1,0,none⟩) l.length l.length] 78)) (.cells A 38);rw[e1]at e;exact bH.drew.get e (by simp)
      rw[<-b];clear b;have RP:mK p (a.heap.size+2) 0 l H (a.heap.size+2+1) (lr l 0):=⟨⟨⟨_,_,C,rfl⟩,Q.Zbj k4⟩,⟨_,_,C,by rw[AH l 0 (XX _)];rfl⟩,G4⟩;have HJ:Xq _:=(wB (a.heap.size+2) 0 (a.heap.size+2+1) l H p RP Y.o.ok Y.o.prf (by omega) (fun aS hx=>by have:=Z.o aS hx;omega));have V:=(t.trans k3).trans k4;have A4:=V.get hA (by simp);have F4:=V.get hF (by simp);clear RP U;go_wp2_with fail;refine Xx HJ.o ?_;rintro e X ⟨rfl,M,i⟩;have B5:=i.get C (by simp);have B:=i.get A4 (by simp;omega);have D:=i.get F4 (by simp;omega);obtain⟨b0,b1,b2⟩:=zT B5;obtain⟨a0,a1,a2⟩:=zT B;obtain⟨z0,z1,z2,z3⟩:=dh D;have ya:=zcW B;have yf:=zcW D;have v:=ah B;have y:=ah D;have KW:aa [] w X:=by
        have q:=(hK.trans V);exact⟨i.os.trans q.os,i.tape.trans q.tape,i.output.trans q.output,XF q.size i.size,fun k n _=>(i.block k (XB n q.size) (by simp;omega)).trans (q.block k n (by simp))⟩
      have KS:=wU X w.heap.size (w.heap.size+1);have K:Xq (iY X l H):=M.recd.Zbv;have J:Xq _:=M.arr;have u:Xq _:=KS;clear M KS B5 B D C A4 F4 G4;go_wp2;exact XG (v:=tuple #[agg #[slice (H 6).ao l.length (H 6).cap,slice f m g,slice (some ⟨a.heap.size+2+1,0,none⟩) l.length l.length],agg #[int i64 0,string ⟨#[]⟩,int i64 0,int i64 0]]) (by simp[results,results52,go_sem,a0,a1,a2,z0,z1,z2,z3]) rfl
        ⟨⟨H,a.heap.size+2+1,⟨f,m,g,rfl⟩,K.o.Zbw (u.o _ _ _ _ _ _ _) (fun k n=>by have:=Z.o k n;simp;omega),(u.o _ _ _ _ _ _ _).get J.o (by simp;omega),fun k n=>by have:=Z.o k n;omega,by omega⟩,tI KW (Xy _) (ZU _) _ _ _ _ _ _ _⟩
structure sG(w:World)(x:Nat)(fs:Fs)(l:List St)(H:Nat->Hd)(g:Nat):Prop where
  ver:∃(a7:Xt) (n7 c7:Nat),j6 w x fs true (slice (H 6).ao l.length (H 6).cap) (slice a7 n7 c7) (slice (some ⟨g,0,none⟩) l.length l.length)
  Zbv:iY w l H
  arr:w.heap[g]?=some (.cells (mF (mt l l.length)).toArray 38)
  far:x≠g/\∀k,eG H k->k≠x
theorem sG.anyR(h:sG f S zt g y0 M):mP f S zt:=by
  obtain⟨a,c,b,h⟩:=h.ver;exact h.anyR
theorem sG.Zbj(h:sG f S zt g y0 M)(k:aa [] f y):sG y S zt g y0 M:=by
  obtain⟨a,d,b,c⟩:=h.ver;exact⟨⟨a,d,b,bO.Zbw c k (by simp)⟩,h.Zbv.Zbj k,k.get h.arr (by simp),h.far⟩
theorem N5(h:aa z7 f y)(a:f.heap.size<=S)(b c d e:Value) :
    aa z7 f ((((y.setCell ⟨S,0,none⟩ b).setCell ⟨S,1,none⟩ c).setCell ⟨S,2,none⟩ d).setCell ⟨S,3,none⟩ e) :=
  (((h.setCell (XK a) _).setCell (XK a) _).setCell (XK a) _).setCell (XK a) _
theorem An :
    aa [x] zf ((((zf.setCell ⟨x,0,none⟩ y3).setCell ⟨x,1,none⟩ y4).setCell ⟨x,2,none⟩ y5).setCell ⟨x,3,none⟩ y6) :=
  ((((aa.refl [x] zf).sl1 _).sl1 _).sl1 _).sl1 _
theorem ve(h:aa z7 f y)(a:S∈z7∨f.heap.size<=S)(b:M∈z7∨f.heap.size<=M)(c d e g i j k l:Value) :
    aa z7 f ((((((((y.setCell ⟨S,9,none⟩ c).setCell ⟨S,10,none⟩ d).setCell ⟨S,11,none⟩ e).setCell ⟨S,12,none⟩ g).setCell ⟨M,0,none⟩ i).setCell ⟨M,1,none⟩ j).setCell ⟨M,2,none⟩ k).setCell ⟨M,3,none⟩ l) :=
  (((((((h.setCell a _).setCell a _).setCell a _).setCell a _).setCell b _).setCell b _).setCell b _).setCell b _
def L8(fs:Fs)(k0 x:Nat)(w:World)(e:Ending)(w':World):Prop :=
  (if((cK fs k0).1.1==0)=true then e=returned (tuple #[jh dJ,int i64 0])/\∃H g,sG w' x fs (cK fs k0).2.2.Zbv H g/\w.heap.size<=g/\∀k,eG H k->w.heap.size<=k
   else e=returned (tuple #[jh (cK fs k0).1,int i64 6])/\lD w' x fs)/\aa [x] w w'
theorem LG(h:mP H x I)(hf:bV I N=T)(Q:T<I.length)(U:∀j,j<I.length->(ak I j).size<=1024) :
    Calls prog 35 #[pointer (some ⟨x,0,none⟩),string N] H fun e V=>L8 I T x H e V:=by
  have ag:=h.lt;obtain⟨W,A⟩:∃W,W=H.alloc (.cells #[int i64 0,string ⟨#[]⟩,int i64 0,int i64 0] 87):=⟨_,rfl⟩
  have hK:=dx A.symm;have hF:W.heap[H.heap.size]?=some (.cells bM 87):=by rw[A];exact XD _ _
  have z:=h.Zbw hK (by simp);have HW:Xq _:=A.symm;have Z:Calls prog 49 #[pointer (some ⟨x,0,none⟩),string N] W fun e V=>e=returned (int i64 T)/\V=W:=by
    obtain⟨am,a,b,c,hv⟩:=z;rw[<-hf];exact nK x _ I _ N W hv
  have G:Xq _:=Z;have Y:=Aa x I W z;have F:Xq _:=Y;clear Z Y A;have K:=fun(X:World) (i:lD X x I)=>zaY x _ T I _ X i Q U;unfold Jv at K;have t:Xq _:=K;clear K;unfold L8;generalize cK I T=R at *;obtain⟨⟨r,pf,pl,pc⟩,af,d'⟩:=R;simp only[jh,dJ]at t ⊢;generalize d'.Zbv=l at *;go_enter func35,ntmps35;go_wp2_with fail;rw[HW.o];refine Xx G.o ?_;rintro e w9 ⟨rfl,rfl⟩;go_wp2_with fail;refine Xx F.o ?_;rintro e X ⟨rfl,i,q⟩;have P:=q.get hF (by simp;omega);go_wp2_with fail;refine Xx (t.o _ i) ?_;rintro e y ⟨d,s⟩;have p:=s.get P (by simp);have f:=i.Zbw s (by simp);have u:aa [x] H y:=((hK.mono (by simp)).trans q).trans (s.mono (by simp));obtain⟨z0,z1,z2,z3⟩:=dh p;have yf:=zcW p;have m:=ah p;have ac:x≠H.heap.size:=by omega
  cases B:(r==0)
  · have S:(r != 0)=true:=by simp[bne,B]
    simp only[B,Bool.false_eq_true,if_false]at d ⊢;subst d;have E:Xq _:=f;clear f i z;go_wp2;exact XG (v:=tuple #[agg #[int i64 r,string pf,int i64 pl,int i64 pc],int i64 6]) (by simp[results,results35,go_sem,z0,z1,z2,z3,m]) rfl
      ⟨⟨rfl,E.o.Zbw (((An y H.heap.size _ _ _ _).alloc _).alloc _) (by simp;omega)⟩,((N5 u (Xy _) _ _ _ _).alloc _).alloc _⟩
  · have S:(r != 0)=false:=by simp[bne,B]
    simp only[B,if_true]at d ⊢;obtain⟨C,g,a7,n7,c7,rfl,hS,hA,hN,hg⟩:=d;have al:=ah hF;have ai:=q.size;obtain⟨c9,L,M,O⟩:=j6.cells f;have yv:=bO.free f;have HT:Xq _:=j6.turn f true (slice (C 6).ao l.length (C 6).cap) (slice a7 n7 c7) (slice (some ⟨g,0,none⟩) l.length l.length);have J:Xq _:=hS;have D:Xq _:=hA;have n:Xq _:=hN;have ad:x<y.heap.size:=bO.lt f;clear f i z hS hA hN;unfold VS at L M O;unfold I2 at HT;go_wp2;exact XG (v:=tuple #[agg #[int i64 0,string ⟨#[]⟩,int i64 0,int i64 0],int i64 0]) (by simp[results,results35,go_sem,z0,z1,z2,z3,m]) rfl
      ⟨⟨rfl,C,g,⟨⟨a7,n7,c7,bO.Zbw HT.o (((An _ H.heap.size _ _ _ _).alloc _).alloc _) (by simp;omega)⟩,J.o.Zbw (((ve (aa.refl [x,H.heap.size] y) (XQ (by simp)) (XQ (by simp)) _ _ _ _ _ _ _ _).alloc _).alloc _) (fun k w=>by have:=n.o k w;simp;omega),(((ve (aa.refl [x,H.heap.size] y) (XQ (by simp)) (XQ (by simp)) _ _ _ _ _ _ _ _).alloc _).alloc _).get D.o (by simp;omega),⟨by omega,fun k w=>by have:=n.o k w;omega⟩⟩,by omega,fun k w=>by have:=n.o k w;omega⟩,
        ((ve u (XQ (by simp)) (XK (Xy _)) _ _ _ _ _ _ _ _).alloc _).alloc _⟩
theorem Eu:aN b N=true ↔ N∈b:=by
 unfold aN;rw[Yu];exact⟨fun⟨y,h,e⟩=>tT (ZR e) ▸ h,fun h=>⟨N,h,by simp⟩⟩
theorem Mw{L:Xs}(h:aN L y1=false):y1∉L:=fun c=>by rw[(Eu L y1).2 c]at h;cases h
theorem JB(l:Xs)(x:Xr):∀v,x∈dH v l ↔ x∈v∨x∈l:=by
 induction l with
 | nil=>intro v;simp[dH]
 | cons y l a =>
  intro v;have e:dH v (y :: l)=dH (if aN v y=true then v else v++[y]) l:=rfl;rw[e,a];split
  ·next h =>
   have:=(Eu v y).1 h;constructor
   ·rintro (q | q)
    ·exact XQ q
    ·exact XK (by simp[q])
   ·rintro (q | q)
    ·exact XQ q
    ·rcases Yd.1 q with rfl | q
     ·exact XQ this
     ·exact XK q
  ·simp only[List.mem_append,List.mem_cons,List.not_mem_nil,or_false,or_assoc]
theorem Rh{s:St}(h:s∈ig g S):∃u∈g,s.Zby=u.Zby/\s.Zbe=u.Zbe:=by
 obtain⟨i,a⟩:=List.mem_iff_getElem?.1 h;unfold ig at a;rw[mU]at a;cases b:g[i]? with
 | none=>rw[b]at a;cases a
 | some u =>
  rw[b]at a;simp only[Option.map_some,Option.some.injEq]at a;refine⟨u,YH b,?_⟩;rw[<-a];split
  ·unfold ma;split <;> exact⟨rfl,rfl⟩
  ·exact⟨rfl,rfl⟩
structure yR(d:Db):Prop where
 cv:∀x∈d.Zbg,x∉d.Zbh
 av:∀x∈d.Zbn,x∈d.Zbh
 c7:d.Zby=7->∀x∈d.Zbe,x∉d.Zbh
 c8:d.Zby=8->∀x∈d.Zbe,x∉d.Zbg
 hd:2<=d.Zby/\d.Zby<=5->∀x,d.Zbe[0]?=some x->x∈d.Zbg
 c2:d.Zby=2->∀x,d.Zbe[1]?=some x->x∈d.Zbh
 no:d.Zby=0∨d.Zby=6->d.Zbe=[]
 st:∀s∈d.Zbv,2<=s.Zby/\s.Zby<=5->(∀x,s.Zbe[0]?=some x->x∈d.Zbg)/\(s.Zby=2->∀x,s.Zbe[1]?=some x->x∈d.Zbh)
section
variable {d d':Db}
theorem yR.bare(C:yR d)(e:d'.Zbg=d.Zbg)(c:d'.Zbh=d.Zbh)(g:∀x∈d'.Zbn,x∈d.Zbn)(b:d'.Zbe=[])(i:∀s∈d'.Zbv,∃u∈d.Zbv,s.Zby=u.Zby/\s.Zbe=u.Zbe):yR d':=by
 refine⟨by rw[e,c];exact C.cv,fun x a=>by rw[c];exact C.av x (g x a),fun _ x a=>?_,fun _ x a=>?_,fun _ x a=>?_,fun _ x a=>?_,fun _=>b,fun s k j=>?_⟩
 ·rw[b]at a;cases a
 ·rw[b]at a;cases a
 ·rw[b]at a;cases a
 ·rw[b]at a;cases a
 ·obtain⟨u,l,f,m⟩:=i s k;rw[f,m,e,c];exact C.st u l (by rw[<-f];exact j)
theorem yR.same(C:yR d)(e:d'.Zbg=d.Zbg)(a:d'.Zbh=d.Zbh)(f:d'.Zbn=d.Zbn)(b:d'.Zbe=d.Zbe)(g:d'.Zbv=d.Zbv)(c:d'.Zby=d.Zby):yR d' :=
 ⟨by rw[e,a];exact C.cv,by rw[f,a];exact C.av,by rw[c,b,a];exact C.c7,by rw[c,b,e];exact C.c8,by rw[c,b,e];exact C.hd,by rw[c,b,a];exact C.c2,by rw[c,b];exact C.no,by rw[g,e,a];exact C.st⟩
theorem yR.first(C:yR d)(x:Xr)(m:d.Zby=0):yR (aC d x).2:=by
 have c:=C.no (XQ m);have b:∀s∈d.Zbv,∃u∈d.Zbv,s.Zby=u.Zby/\s.Zbe=u.Zbe:=fun s h=>⟨s,h,rfl,rfl⟩
 have a:∀d':Db,d'.Zbg=d.Zbg->d'.Zbh=d.Zbh->d'.Zbn=d.Zbn->d'.Zbe=d.Zbe->d'.Zbv=d.Zbv->yR d':=fun d' g i j k l=>C.bare g i (by rw[j];exact fun x h=>h) (k.trans c) (by rw[l];exact b);unfold aC;split
 ·exact a _ rfl rfl rfl rfl rfl
 ·split
  ·split
   ·exact C
   ·unfold cZ;split
    ·exact C.bare rfl rfl (fun y f=>Zx f) c b
    ·exact C.bare rfl rfl (fun y f=>Zx f) c (fun s e=>Rh e)
  ·split
   ·split
    ·exact C
    ·exact a _ rfl rfl rfl rfl rfl
   ·split
    ·exact a _ rfl rfl rfl rfl rfl
    ·split
     ·exact a _ rfl rfl rfl rfl rfl
     ·split
      ·exact C
      ·unfold bS
       repeat' split
       all_goals first | exact C | exact a _ rfl rfl rfl rfl rfl
theorem yR.ZbC(C:yR d)(p:Pl):yR (l9 d p).2:=by
 unfold l9;split
 ·exact C
 ·split
  ·exact C
  ·unfold aW;split
   ·next j =>
    have j:d.Zby=7:=(by simpa using j);refine⟨fun x a=>?_,C.av,(fun h=>by cases h),(fun h=>by cases h),(fun h=>by exact absurd h.1 (by show ¬(2:Int)<=0;omega)),(fun h=>by cases h),fun _=>rfl,fun s b c=>⟨fun x a=>Yx _ ((C.st s b c).1 x a),(C.st s b c).2⟩⟩;rcases X9.1 a with a | a
    ·exact C.cv x a
    ·exact C.c7 j x a
   ·split
    ·next l =>
     have l:d.Zby=8:=(by simpa using l);have f:∀x,x∈(eK d d.Zbe.length).Zbh ↔ x∈d.Zbh∨x∈d.Zbe:=fun x=>by show x∈dH d.Zbh (d.Zbe.take d.Zbe.length) ↔ _;rw[Yl];exact JB _ _ _
     refine⟨fun x a g=>?_,fun x a=>(f x).2 ?_,(fun h=>by cases h),(fun h=>by cases h),(fun h=>by exact absurd h.1 (by show ¬(2:Int)<=0;omega)),(fun h=>by cases h),fun _=>rfl,fun s b c=>⟨(C.st s b c).1,fun k x a=>(f x).2 (XQ ((C.st s b c).2 k x a))⟩⟩
     ·rcases(f x).1 g with g | g
      ·exact C.cv x a g
      ·exact C.c8 l x g a
     ·rcases X9.1 a with a | a
      ·exact XQ (C.av x a)
      ·exact XK a
    ·have e:∀q:Db,q=jg d->q.Zbg=d.Zbg/\q.Zbh=d.Zbh/\q.Zbn=d.Zbn/\q.Zbv=d.Zbv/\q.Zby=d.Zby/\q.Zbe=d.Zbe:=fun q u=>by
      rw[u];unfold jg;split <;> exact⟨rfl,rfl,rfl,rfl,rfl,rfl⟩
     obtain⟨m,i,n,o,r,t⟩:=e _ rfl;unfold om;refine⟨by show ∀x∈(jg d).Zbg,x∉(jg d).Zbh;rw[m,i];exact C.cv,by show ∀x∈(jg d).Zbn,x∈(jg d).Zbh;rw[n,i];exact C.av,(fun h=>by cases h),(fun h=>by cases h),(fun h=>by exact absurd h.1 (by show ¬(2:Int)<=0;omega)),(fun h=>by cases h),fun _=>rfl,fun s b c=>?_⟩
     show(∀x,s.Zbe[0]?=some x->x∈(jg d).Zbg)/\(s.Zby=2->∀x,s.Zbe[1]?=some x->x∈(jg d).Zbh)
     rw[m,i];rcases X9.1 b with b | b
     ·exact C.st s (by rw[<-o];exact b) c
     ·rw[XH.1 b]at c ⊢;simp only[r,t]at c ⊢;exact⟨C.hd c,C.c2⟩
theorem yR.more(C:yR d)(x:Xr)(n:d.Zby≠0)(l:d.Zby≠6)(a:bh d x=0):yR { d with Zbe:=d.Zbe++[x] }:=by
 have j:∀(i:Nat) y,(d.Zbe++[x])[i]?=some y->d.Zbe[i]?=some y∨(i=d.Zbe.length/\y=x):=fun i y h=>by
  by_cases m:i<d.Zbe.length
  ·rw[XP m]at h;exact XQ h
  ·rw[XO (by omega)]at h;by_cases e:i-d.Zbe.length=0
   ·rw[e]at h;cases h;exact XK ⟨by omega,rfl⟩
   ·rw[Yb (by simp;omega)]at h;cases h
 unfold bh at a;refine⟨C.cv,C.av,fun h y b=>?_,fun h y b=>?_,fun h y b=>?_,fun h y b=>?_,(fun h=>by rcases h with h | h;exact absurd h n;exact absurd h l),C.st⟩
 ·rcases X9.1 b with b | b
  ·exact C.c7 h y b
  ·rw[XH.1 b];replace h:d.Zby=7:=h;rw[XA (by rw[h];rfl)]at a;split at a
   ·cases a
   ·next q =>
    have f:eB d x=false:=(by simpa using fun c=>q (XK c));unfold eB at f;simp only[Bool.or_eq_false_iff]at f;exact Mw f.2
 ·rcases X9.1 b with b | b
  ·exact C.c8 h y b
  ·rw[XH.1 b];replace h:d.Zby=8:=h;rw[Xz (by rw[h];decide),XA (by rw[h];rfl)]at a;split at a
   ·cases a
   ·next q =>
    have f:eI d x=false:=(by simpa using fun c=>q (XK c));unfold eI at f;simp only[Bool.or_eq_false_iff]at f;exact Mw f.1.2
 ·rcases j 0 y b with g | ⟨g,rfl⟩
  ·exact C.hd h y g
  ·replace h:2<=d.Zby/\d.Zby<=5:=h;rw[Xz (by simp;omega),Xz (by simp;omega),Xz (by simp;omega),XA g.symm]at a;unfold iZ at a;split at a
   ·cases a
   ·next q=>exact(Eu _ _).1 (by simpa using q)
 ·rcases j 1 y b with g | ⟨g,rfl⟩
  ·exact C.c2 h y g
  ·replace h:d.Zby=2:=h;rw[Xz (by rw[h];decide),Xz (by rw[h];decide),Xz (by rw[h];decide),Xz (by omega),XA (by rw[h];rfl)]at a;unfold fF at a;split at a
   ·cases a
   ·split at a
    ·cases a
    ·next q=>exact C.av _ ((Eu _ _).1 (by simpa using q))
theorem yR.take(C:yR d)(x:Xr)(p:Pl):yR (aY d x p).2:=by
 unfold aY;split
 ·next h=>exact C.first x (by simpa using h)
 ·next b =>
  have b:d.Zby≠0:=by simpa using b
  split
  ·next a =>
   have c:=C.no (XK (by simpa using a));unfold aJ
   repeat' split
   all_goals first | exact C | exact C.bare rfl rfl (fun x h=>h) c (fun s h=>⟨s,h,rfl,rfl⟩)
  ·next a =>
   have a:d.Zby≠6:=(by simpa using a);split
   ·exact C.ZbC p
   ·split
    ·unfold cr;split
     ·exact C
     ·exact C.same rfl rfl rfl rfl rfl rfl
    ·split
     ·exact C
     ·split
      ·exact C.same rfl rfl rfl rfl rfl rfl
      ·split
       ·next q=>exact C.more x b a (by simpa using q)
       ·exact C
theorem yR.empty{d:Db}(h:d=⟨[],[],[],[],[],[],[],[],0,⟨#[]⟩,[],false,[]⟩):yR d:=by
 subst h;exact⟨(fun x h=>by cases h),(fun x h=>by cases h),(fun h=>by cases h),(fun h=>by cases h),(fun h=>by exact absurd h.1 (by show ¬(2:Int)<=0;omega)),(fun h=>by cases h),fun _=>rfl,(fun s h=>by cases h)⟩
end
def qi(l:List St)(lab:Xr)(n:Nat):Bool:=match l[n]? with | some s=>(s.Zbz.toList==lab.toList)&&sU s.Zby | none=>false
def lH(l:List St)(lab:Xr):Option Nat:=(List.range l.length).find? (qi l lab)
theorem Dc(h:l<w.length):qi w N l=((w[l].Zbz.toList==N.toList)&&sU w[l].Zby):=by
 unfold qi;rw[Xv h]
set_option maxRecDepth 512
theorem wl(h:dQ H x T w i)(M:w.length<=1073741824) :
  Calls prog 133 #[pointer (some ⟨x,T,none⟩),string m] H fun e v=>e=returned (int i64 (iu (lH w m)))/\aa [] H v:=by
 go_enter func133,ntmps133;go_wp2
 go_loopg [5] w.length (fun g a wr=>∃k:Nat,k<=w.length/\g=w.length-k/\a=int i64 k/\Xq (∀a,a<k->qi w m a=false)/\aa [] H wr)
 ·exact⟨0,by omega,by omega,rfl,fun a r=>by omega,aa.refl _ _⟩
 obtain⟨k,L,K,rfl,b,o⟩:=hrel;have n:=h.Zbj o;have c:=n.at
 by_cases j:k<w.length
 ·obtain⟨g,t,I,J,z,A,B,C,D,E,F,G⟩:=n.Zbv.stmt k j;rw[t]at c;have l:Xq _:=Dc w m k j;have next:Xq (qi w m k=false->∀a,a<k+1->qi w m a=false):=by
   intro u a r;by_cases e:a=k
   ·subst e;exact u
   ·exact b.o a (by omega)
  generalize w[k]=s at *;cases q:(s.Zbz.toList==m.toList)
  ·have d:Xq (qi w m k=false):=(by show _=_;rw[l.o,q];simp);clear l n;go_wp2;go_roundg (w.length-(k+1))
   ·exact⟨k+1,by omega,rfl,by go_num,next.o d.o,o⟩
   omega
  ·cases p:sU s.Zby
   ·have d:Xq (qi w m k=false):=(by show _=_;rw[l.o,p];simp);clear l n;go_wp2_with (go_at_call 159;refine(eW s.Zby _ _ _ _ _ _ _ _).mono ?_;rintro e y ⟨rfl,f⟩;rw[p]);go_roundg (w.length-(k+1))
    ·exact⟨k+1,by omega,rfl,by go_num,next.o d.o,o.trans f⟩
    omega
   ·have d:Xq (lH w m=some k):=jP j (by rw[l.o,q,p];rfl) b.o;clear l n;go_wp2_with (go_at_call 159;refine(eW s.Zby _ _ _ _ _ _ _ _).mono ?_;rintro e y ⟨rfl,f⟩;rw[p]);go_ret;exact⟨au (by rw[d.o];rfl),o.trans f⟩
 ·have d:Xq (lH w m=none):=jz (fun a r=>b.o a (by omega));clear n;go_wp2;go_ret;exact⟨au (by rw[d.o];rfl),o⟩
def zb3(k:Int):Xr:=if(k==2)=true then⟨#[36,102]⟩ else if(k==3)=true then⟨#[36,101]⟩ else if(k==4)=true then⟨#[36,97]⟩ else⟨#[36,112]⟩
def Sc(s:St)(k:Nat):Xr:=(s.Zbe.take k).foldl (fun t x=>t++(⟨#[32]⟩++x)) (s.Zbz++⟨#[32]⟩++zb3 s.Zby)
def Xf(s:St):Xr:=Sc s s.Zbe.length
structure zcO(s:St):Prop where
 Zbz:s.Zbz.size<=100000
 syms:∀x∈s.Zbe,x.size<=100000
def pu(l:List St)(n:Nat):Option Xr:=match l[n]? with
 | some s=>if(s.Zby==2)=true then some (aB s) else none
 | none=>none
def kE(l:List St)(hs:Xu)(k:Nat):Xs:=(hs.take k).filterMap (pu l)
def fX(l:List St)(hs:Xu):Xs:=hs.filterMap (pu l)
theorem LD(h:l<n.length)(b:n[l]<w.length)(a:(w[n[l]].Zby==2)=true):kE w n (l+1)=kE w n l++[aB w[n[l]]]:=by
 unfold kE;rw[nt n l h,Zs];have:pu w n[l]=some (aB w[n[l]]):=by unfold pu;rw[Xv b];simp[a]
 simp[this]
theorem P7(h:l<n.length)(b:n[l]<w.length)(a:(w[n[l]].Zby==2)=false):kE w n (l+1)=kE w n l:=by
 unfold kE;rw[nt n l h,Zs];have:pu w n[l]=none:=by unfold pu;rw[Xv b];simp[a]
 simp[this]
theorem LC:(kE w n l).length<=n.length:=by
 unfold kE;have a:=ZP (pu w) (n.take l);have b:(n.take l).length<=n.length:=by simp;omega
 omega
set_option maxRecDepth 100000
theorem zh(h:dQ H x T w i)(ok:iV w)(C:aD H z5 (bK n))(ag:n.length<=10000)(D:∀b∈n,b<w.length) :
  Calls prog 179 #[pointer (some ⟨x,T,none⟩),slice z5.ao n.length z5.cap] H fun e w'=>∃c:Hd,e=returned (slice c.ao (fX w n).length c.cap)/\aD w' c (aE (fX w n))/\(∀b,c.Zbx=some b->H.heap.size<=b)/\aa [] H w':=by
 obtain⟨i0,hi,Z,ac,ad⟩:=XV i9;have HE:Xq (kE w n n.length=fX w n):=cm (by unfold kE fX;rw[Yl]);rw[<-HE.o];clear HE;obtain⟨AO,p⟩:=aP (z5.ao);rw[p.o];go_enter func179,ntmps179;go_wp2
 go_loopg [5,6] n.length (fun gk sv ap wr=>∃(k:Nat) (c:Hd),k<=n.length/\gk=n.length-k/\ap=int i64 k/\sv=slice c.ao (kE w n k).length c.cap/\aD wr c (aE (kE w n k))/\(∀b,c.Zbx=some b->H.heap.size<=b)/\aa [] H wr)
 ·exact⟨0,⟨none,0⟩,by omega,by omega,rfl,rfl,XE _ _ _ _,by intro b m;simp[Hd.Zbx]at m,aa.refl _ _⟩
 obtain⟨k,c,hk,hg,rfl,rfl,V,I,G⟩:=hrel;have hr:=h.Zbj G;have ai:=LC w n k;by_cases l:k<n.length
 ·have f:=D n[k] (XM l);have d:aD wr z5 (bK n):=C.Zbo (fun b m=>G.block b (C.lt m) (by simp));rcases d.Zbu with ⟨_,h0,_⟩ | ⟨gh,af,N,O,P,-⟩
  ·have:n.length=0:=h0;omega
  have ch:=d.cell N k (int i64 n[k]) (mh n k l);have R:AO=some ⟨gh,0,none⟩:=by rw[<-p.o];exact N
  subst R;have am:(k:Int)<n.length:=by omega
  have L:Xq _:=LD w n k l f;have r:Xq _:=P7 w n k l f;have an:=ok.syms n[k] f;clear N O P d p;generalize n[k]=q at *;have M:=jD w[q] (i (10+2*q)) (i (11+2*q));unfold du at M;have K:Xq _:=M;clear M;go_upto_region 6 with (go_at_call 96;refine(bu x T q w i _ (by exact hr) f).mono ?_;rintro e w3 ⟨rfl,X⟩;unfold du)
  obtain⟨F,g⟩:∃F,F=w3.alloc (.cells #[int i64 w[q].Zby,string w[q].Zbz,slice (i (10+2*q)).ao w[q].Zbe.length (i (10+2*q)).cap,slice (i (11+2*q)).ao w[q].Zbp.length (i (11+2*q)).cap,string w[q].ZbC.ZbD,int i64 w[q].ZbC.ZbE,int i64 w[q].ZbC.ZbF,int i64 w[q].til] 158):=⟨_,rfl⟩
  have t:aa [] wr F:=by rw[g];exact X.alloc _
  have B4:=dC g.symm;rw[<-g];clear g;obtain⟨u0,u1,u2,u3,u4,u5,u6,u7⟩:=yY B4;have Y:=hr.Zbj t;have s:aD F c (aE (kE w n k)):=V.Zbo (fun b m=>t.block b (V.lt m) (by simp));have W:=(Y.Zbv.syms q w[q] (Xv f)).view;have z:=G.trans t;cases h2:(w[q].Zby==2)
  ·have v:Xq _:=r.o h2;clear L r;go_wp2;go_roundg (n.length-(k+1))
   ·exact⟨k+1,c,by omega,rfl,by go_num,by rw[v.o],by rw[v.o];exact s,I,z⟩
   omega
  ·have v:Xq _:=L.o h2;clear L r;go_wp2_with (first | (go_at_call 188;refine(K.o _ (by exact W) (by omega)).mono ?_;rintro e w5 ⟨rfl,k5⟩;have B:=s.Zbo (fun b m=>(k5.alloc (.cells #[string (aB w[q])] 9)).block b (s.lt m) (by simp))) | (at_builtin;refine aR _ rfl (.tmp 23) (.tmp 26) 61 rfl i0 (string ⟨#[]⟩) 16 c (aE (kE w n k)) underlying61 hi Z ac ad rfl XR rfl (by exact B) ⟨_,0,none⟩ 1 1 [string (aB w[q])] rfl rfl ?d1 ?d2 XR ?d3 ?d4 ?_))
   case d1=>intro j u J;match j,J with | 0,J=>simp at J;subst J;simp[Addr.add]
   case d2=>intro u hu;simp at hu;subst hu;rfl
   case d3=>simp only[aE];unfold maxLen;omega
   case d4=>simp only[aE];omega
   intro Q y w6 E o a;rw[dy (kE w n k) (aB w[q]),<-v.o]at E;have A:=(z.trans k5).alloc (.cells #[string (aB w[q])] 9);have U:=A.grown o I;have al:H.heap.size<=Q:=by
    rcases a with e | e
    ·exact I Q e
    ·have:=A.size;simp at e this;omega
   have S:Xq ((aE (kE w n k)).n+1=(kE w n (k+1)).length):=cm (by rw[v.o];simp[aE]);rw[S.o];clear o a B;go_wp2;go_roundg (n.length-(k+1))
   ·exact⟨k+1,⟨some ⟨Q,0,none⟩,y⟩,by omega,rfl,by go_num,rfl,E,by intro b m;simp[Hd.Zbx]at m;omega,U⟩
   omega
 ·have e:k=n.length:=by omega
  subst e;go_wp2;go_ret;exact⟨c,rfl,V,I,G⟩
abbrev Pr:=ByteArray×ByteArray
def prV(p:Pr):List Value:=[string p.1,string p.2]
def zb9(l:List Pr):List Value:=l.flatMap prV
def mq(l:List Pr):eD:=⟨227,2,l.length,zb9 l⟩
theorem KT(l:List Pr)(x:Pr):(⟨(mq l).e,(mq l).size,(mq l).n+1,(mq l).xs++[string x.1,string x.2]⟩:eD)=mq (l++[x]):=by
 simp[mq,zb9,prV]
theorem zaD:(prog.info? 227).map (fun i=>(i.zero,i.size,i.bytes))=some (some (agg #[string ⟨#[]⟩,string ⟨#[]⟩]),2,32):=by kernel_rfl
def gD(vs:Xs)(i:Nat):Xr:=vs.getD i ⟨#[]⟩
def pT(vs:Xs)(ms:List Bool)(i k:Nat):List Pr:=((List.range k).filter (fun j=>decide (i<j)&&fE vs.length ms i j)).map (fun j=>(gD vs i,gD vs j))
def xM(vs:Xs)(ms:List Bool)(i:Nat):List Pr:=(List.range i).flatMap (fun i=>pT vs ms i vs.length)
def OW(vs:Xs)(ms:List Bool):List Pr:=xM vs ms vs.length
theorem KG:pT b D l (l+1)=[]:=by
 unfold pT;rw[List.map_eq_nil_iff,ZE];intro j a;have:=XI.1 a;simp;omega
theorem OS(a:k<l)(h:fE b.length D k l=true):pT b D k (l+1)=pT b D k l++[(gD b k,gD b l)]:=by
 unfold pT;rw[YG,Yy,Yj];simp[a,h]
theorem SJ(h:fE b.length D k l=false):pT b D k (l+1)=pT b D k l:=by
 unfold pT;rw[YG,Yy,Yj];simp[h]
theorem Dj:xM b D (l+1)=xM b D l++pT b D l b.length:=by
 unfold xM;rw[YG,YZ];simp
theorem Di:(pT b D k l).length<=l:=by
 unfold pT;rw[XZ];have:=YE (fun j=>decide (k<j)&&fE b.length D k j) (List.range l);simpa using this
theorem SL(i:Nat):(xM b D i).length<=i*b.length:=by
 induction i with
 | zero=>simp[xM]
 | succ i a =>
  rw[Dj,XC,Zac];have:=Di b D i b.length;omega
def wK(vs:Xs)(ms:List Bool)(i j:Nat):List Pr:=xM vs ms i++pT vs ms i j
theorem SF(a:k<=10000)(c:b.length<=10000)(g:l<=10000):(wK b D k l).length<=100010000:=by
 unfold wK;rw[XC];have d:=SL b D k;have e:=Di b D k l;have f:k*b.length<=10000*10000:=YF a c;omega
theorem Ib(h:dQ H L x w i)(ok:iV w)(hO:aD H z5 (aE b))(B:b.length<=10000) :
  Calls prog 180 #[pointer (some ⟨L,x,none⟩),int i64 T,slice z5.ao b.length z5.cap] H fun e W=>∃l:Hd,e=returned (slice l.ao (OW b (ii w T b)).length l.cap)/\aD W l (mq (OW b (ii w T b)))/\(∀a,l.Zbx=some a->H.heap.size<=a)/\aa [] H W:=by
 obtain⟨i0,hi,ar,av,ax⟩:=XV zaD;have K:Xq _:=JE L x T w i z5 b H h ok hO B;have r:(ii w T b).length=b.length*b.length:=lT w T b _;generalize ii w T b=c at *;obtain⟨AO,J⟩:=aP (z5.ao);rw[J.o]at K ⊢;go_enter func180,ntmps180;go_wp2_with fail;refine Xx K.o ?_;rintro e X ⟨tb,hv,hm,rfl,ai,ba,bc,k1⟩;go_wp2
 go_loopg [8,9] b.length (fun gk sv bd wr=>∃(k:Nat) (l:Hd),k<=b.length/\gk=b.length-k/\bd=int i64 k/\sv=slice l.ao (xM b c k).length l.cap/\aD wr l (mq (xM b c k))/\(∀a,l.Zbx=some a->X.heap.size<=a)/\aa [] X wr)
 ·exact⟨0,⟨none,0⟩,by omega,by omega,rfl,rfl,XE _ _ _ _,by intro a F;simp[Hd.Zbx]at F,aa.refl _ _⟩
 obtain⟨k,l,hk,hg,rfl,rfl,D,hN,hK⟩:=hrel;by_cases A:k<b.length
 ·have ac:Xq _:=Dj b c k;have HZ:Xq _:=KG b c k;have HB:Xq (wK b c k (k+1)=xM b c k):=by show xM b c k++_=_;rw[HZ.o,Ya]
  have HE:Xq (wK b c k b.length=xM b c (k+1)):=ac.o.symm;go_wp2_with fail
  go_loopg [8,10] (b.length-(k+1)) (fun ag az i2 Y=>∃(j:Nat) (d:Hd),k<j/\j<=b.length/\ag=b.length-j/\i2=int i64 j/\az=slice d.ao (wK b c k j).length d.cap/\aD Y d (mq (wK b c k j))/\(∀a,d.Zbx=some a->X.heap.size<=a)/\aa [] X Y)
  ·exact⟨k+1,l,by omega,by omega,rfl,by go_num,by rw[HB.o],by rw[HB.o];exact D,hN,hK⟩
  obtain⟨j,d,aq,hj,a2,rfl,rfl,p,o,g⟩:=hrel;clear D hN hK;have a1:=SF b c k j (by omega) B (by omega);by_cases v:j<b.length
  ·have Q:=ai.Zbj g;have s:aD wr z5 (aE b):=hO.Zbo (fun a F=>(k1.trans g).block a (hO.lt F) (by simp));rcases s.Zbu with ⟨_,h0,_⟩ | ⟨m,aS,ev,P,a0,-⟩
   ·have:b.length=0:=h0;omega
   have ad:=s.cell ev k (string b[k]) (by simp[aE,dc,A]);have af:=s.cell ev j (string b[j]) (by simp[aE,dc,v]);have aT:=hO.lt (k:=m) (by unfold Hd.Zbx;rw[ev];rfl);have al:AO=some ⟨m,0,none⟩:=(by rw[<-J.o];exact ev);subst al;have U:=ah P;have S:gD b k=b[k]:=fO b k A;have R:gD b j=b[j]:=fO b j v;have Z:Xq (fE b.length c k j=true->wK b c k (j+1)=wK b c k j++[(gD b k,gD b j)]):=fun hp=>by unfold wK;rw[OS b c k j aq hp,Y2]
   have C:Xq (fE b.length c k j=false->wK b c k (j+1)=wK b c k j):=fun hp=>by unfold wK;rw[SJ b c k j hp]
   rw[S,R]at Z;clear S R P s;have a7:(k:Int)<b.length:=by omega
   have a5:(j:Int)<b.length:=(by omega);have a6:(0:Int)<=k:=(by omega);have a4:(0:Int)<=j:=(by omega);generalize b[k]=a at *;generalize b[j]=y at *;cases t:fE b.length c k j
   ·have M:Xq _:=C.o t;clear Z C;go_wp2_with (go_at_call 214;refine(tR tb b c hv hm k j _ (by exact Q) r B A v).mono ?_;rintro e w9 ⟨rfl,E⟩;rw[E,t]);go_roundg (b.length-(j+1))
    ·exact⟨j+1,d,by omega,by omega,rfl,by go_num,by rw[M.o],by rw[M.o];exact p,o,g⟩
    omega
   ·have M:Xq _:=Z.o t;clear Z C;generalize wK b c k j=I at *;have s3:Xq (∀u∈([string a,string y]:List Value),u.oneCell'=true):=by
     intro u hu;simp at hu;rcases hu with rfl | rfl <;> rfl
    have s4:Xq ((mq I).n+1<=maxLen):=(by show _<=_;simp only[mq];unfold maxLen;omega);have s5:Xq (((mq I).n+1)*32<=140737488355328):=(by show _<=_;simp only[mq];omega);have N:Xq (aa [] wr (wr.alloc (.cells #[string a,string y] 227)).drew):=((aa.refl [] wr).alloc _).drew;have hD:Xq (aD (wr.alloc (.cells #[string a,string y] 227)).drew d (mq I)):=p.Zbo (fun z hz=>N.o.block z (p.lt hz) (by simp));have s2:Xq (∀j u,([string a,string y]:List Value)[j]?=some u->(wr.alloc (.cells #[string a,string y] 227)).drew.cell? ((⟨wr.heap.size,0,none⟩:Addr).add j)=some u):=by
     intro j u hj;rw[bE];have hk:(wr.alloc (.cells #[string a,string y] 227)).drew.heap[wr.heap.size]?=some (.cells #[string a,string y] 227):=XD _ _;rw[ab hk];simpa using hj
    have HS:Xq (∀G,(wr.alloc (.cells #[string a,string y] 227)).drew.grownBy G d.Zbx->G.cell? ⟨m,k,none⟩=some (string a)/\G.cell? ⟨m,j,none⟩=some (string y)):=by
     intro G ap;have e:G.heap[m]?=wr.heap[m]?:=(ap.block m (XB U N.o.size) (fun e=>by have:=o m e.symm;have:=k1.size;omega)).trans (N.o.block m U (by simp));exact⟨by rw[XJ e];exact ad,by rw[XJ e];exact af⟩
    (go_upto_region 10 with (go_at_call 214;refine(tR tb b c hv hm k j _ (by exact Q) r B A v).mono ?_;rintro e w9 ⟨rfl,E⟩;rw[E,t]));go_region_held3 (fun W=>W.cell? ⟨m,k,none⟩=some (string a)/\W.cell? ⟨m,j,none⟩=some (string y)) (go_keep) ((refine bB (by rfl) (.tmp 33) (.tmp 43) 221 (by rfl) i0 (agg #[string ⟨#[]⟩,string ⟨#[]⟩]) 32 d (mq I) underlying221 hi ar av ax rfl Zaz (by simp[Act.eval] <;> rfl) hD.o ⟨wr.heap.size,0,none⟩ 1 1 [string a,string y] (by simp[Act.eval]) rfl s2.o s3.o XR s4.o s5.o ?_;intro g5 O G V q f;obtain⟨q1,q2⟩:=HS.o G q));rw[KT I (a,y),<-M.o]at V;have an:=(g.trans N.o).grown q o;have a3:X.heap.size<=g5:=by
     rcases f with e | e
     ·exact o g5 e
     ·have:=(g.trans N.o).size;simp at e this;omega
    have am:Xq ((mq I).n+1=(wK b c k (j+1)).length):=cm (by rw[M.o];simp[mq]);rw[am.o];clear q f q1 q2;go_wp2;go_roundg (b.length-(j+1))
    ·exact⟨j+1,⟨some ⟨g5,0,none⟩,O⟩,by omega,by omega,rfl,by go_num,rfl,V,by intro a F;simp[Hd.Zbx]at F;omega,an⟩
    omega
  ·have e:j=b.length:=(by omega);subst e;rw[HE.o]at p ⊢;go_wp2;go_roundg (b.length-(k+1))
   ·exact⟨k+1,d,by omega,rfl,by go_num,rfl,p,o,g⟩
   omega
 ·have e:k=b.length:=by omega
  subst e;go_wp2;go_ret;exact⟨l,rfl,D,fun a F=>by have:=hN a F;have:=k1.size;omega,k1.trans hK⟩
def ph(l:List St)(a:Nat):List Pr:=OW (fX l (aM l a)) (ii l a (fX l (aM l a)))
def MF(l:List St)(n:Nat):Xr:=match l[n]? with | some s=>Xf s | none=>⟨#[]⟩
def Hz(p:Pr):Xr:=⟨#[36,100,32]⟩++p.1++⟨#[32]⟩++p.2
def Kf(l:List St)(a:Nat):Xs:=(aM l a).map (MF l)++(ph l a).map Hz++[MF l a]
theorem Ev(h:l∈aM w k):l<w.length:=by
 unfold aM eF at h;exact XI.1 (Yt.1 h).1
theorem sS:(aM w l).length<=w.length:=by
 unfold aM eF;have:=YE (og w (iz w l) l) (List.range w.length);simpa using this
theorem N7:(fX w n).length<=n.length:=ZP _ _
theorem zaX(h:dQ H L x w i)(P:T<w.length)(z:iV w) :
  Calls prog 134 #[pointer (some ⟨L,x,none⟩),int i64 T] H fun e I=>∃b d:Hd,e=returned (agg #[slice b.ao (aM w T).length b.cap,slice d.ao (ph w T).length d.cap])/\aD I b (bK (aM w T))/\aD I d (mq (ph w T))/\(∀k,b.Zbx=some k∨d.Zbx=some k->H.heap.size<=k)/\aa [] H I:=by
 have K:=z.len;have Q:=sS w T;have Z:=N7 w (aM w T);have C:Xq (∀a∈aM w T,a<w.length):=fun a f=>Ev w T a f;have M:Xq (ph w T=OW (fX w (aM w T)) (ii w T (fX w (aM w T)))):=rfl;obtain⟨W,y⟩:∃W,W=H.alloc (.cells #[slice none 0 0,slice none 0 0] 223):=⟨_,rfl⟩
 have t:=dx y.symm;have J:=dC y.symm;have N:Xq _:=y.symm;clear y;have n:=h.Zbj t;have B:Xq _:=mb L x T w i W n P z;go_enter func134,ntmps134;go_wp2_with fail;rw[N.o];refine Xx B.o ?_;rintro e w1 ⟨b,rfl,c,j,o⟩;go_wp2_with fail;refine(zh L x w i (aM w T) b w1 (n.Zbj o) z c (by omega) C.o).mono ?_;rintro e w2 ⟨Y,rfl,r,O,p⟩;go_wp2_with fail;refine(Ib L x T w i Y (fX w (aM w T)) w2 ((n.Zbj o).Zbj p) z r (by omega)).mono ?_;rintro e A ⟨d,rfl,m,l,G⟩;rw[<-M.o]at m ⊢;have g:aD A b (bK (aM w T)):=c.Zbo (fun a f=>(p.trans G).block a (c.lt f) (by simp));have q:=((o.trans p).trans G).get J (by simp);have F:aa [] H A:=((t.trans o).trans p).trans G;have U:=(t.trans o).size;have V:=((t.trans o).trans p).size;have R:=o.size;have S:=p.size;have X:=ah J;obtain⟨z0,z1⟩:=uY q;have yf:=zcW q;have D:Xq (∀u v,aD ((A.setCell ⟨H.heap.size,0,none⟩ u).setCell ⟨H.heap.size,1,none⟩ v) b (bK (aM w T))):=fun u v=>g.Zbo (fun a f=>(XN _ _ _ _ (by have:=j a f;show a≠H.heap.size;omega)).trans (XN _ _ _ _ (by have:=j a f;show a≠H.heap.size;omega)));have E:Xq (∀u v,aD ((A.setCell ⟨H.heap.size,0,none⟩ u).setCell ⟨H.heap.size,1,none⟩ v) d (mq (ph w T))):=fun u v=>m.Zbo (fun a f=>(XN _ _ _ _ (by have:=l a f;show a≠H.heap.size;omega)).trans (XN _ _ _ _ (by have:=l a f;show a≠H.heap.size;omega)));clear c r m g;go_wp2;exact XG (v:=agg #[slice b.ao (aM w T).length b.cap,slice d.ao (ph w T).length d.cap]) (by simp[results,results134,go_sem,z0,z1]) rfl
  ⟨b,d,rfl,D.o _ _,E.o _ _,fun k s=>s.elim (fun s=>by have:=j k s;omega) (fun s=>by have:=l k s;omega),
   (F.sr1 (Xy _) _).sr1 (Xy _) _⟩
theorem IT:dc (b.set k N)=(dc b).set k (string N):=by simp[dc,List.map_set]
theorem sG.recd(h:sG f S zt g y0 M):dQ f S 10 g y0:=by
 obtain⟨b,d,c,a⟩:=h.ver;exact⟨⟨_,_,a.1,rfl⟩,h.Zbv⟩
set_option maxRecDepth 512
theorem Pf(h:dQ H x T w i)(b:w.length<=1073741824) :
  Calls prog 89 #[pointer (some ⟨x,T,none⟩),string m] H fun e d=>e=returned (int i64 (iu (lH w m)))/\aa [] H d:=by
 have a:Xq _:=wl x T m w i H h b;go_enter func89,ntmps89;go_wp2_with fail;refine Xx a.o ?_;rintro e f ⟨rfl,c⟩;go_wp2;go_ret;exact⟨rfl,c⟩
theorem Qb(h:sG H T I w i k)(j:w.length<=1073741824) :
  Calls prog 58 #[pointer (some ⟨T,0,none⟩),string N] H fun e m=>e=returned (match lH w N with | some n=>.tuple #[int i64 n,int i64 0] | none=>.tuple #[int i64 0,int i64 8])/\aa [] H m:=by
 have a:Xq _:=Pf T 10 N w i H h.recd j;obtain⟨q,t,r,l⟩:=h.ver;obtain⟨s,d,f,g⟩:=j6.cells l;cases c:lH w N with
 | none =>
  rw[c]at a;simp only[iu]at a;go_enter func58,ntmps58;go_wp2_with fail;refine Xx a.o ?_;rintro e p ⟨rfl,b⟩;go_wp2;go_ret2;exact⟨rfl,b⟩
 | some n =>
  rw[c]at a;simp only[iu]at a;go_enter func58,ntmps58;go_wp2_with fail;refine Xx a.o ?_;rintro e p ⟨rfl,b⟩;go_wp2;go_ret2;exact⟨rfl,b⟩
theorem Gr(h:lH g y1=some S):∃h:S<g.length,sU g[S].Zby=true/\g[S].Zbz.toList=y1.toList:=by
 unfold lH at h;have b:=XI.1 (XS h);have a:=Zd h;rw[Dc g y1 S b]at a;simp only[Bool.and_eq_true]at a;exact⟨b,a.2,by simpa using a.1⟩
structure bL(w w':World)(h h':Hd):Prop where
 Zbw:aa h.Zbx.toList w w'
 Zbx:h'.Zbx=h.Zbx∨∃g,h'.Zbx=some g/\w.heap.size<=g
theorem aX(a:S∈v.Zbx.toList):v.Zbx=some S:=by
 cases e:v.Zbx with
 | none=>rw[e]at a;simp at a
 | some y=>rw[e]at a;simp at a;rw[a]
theorem bL.Zbj(k:aa [] f y):bL f y v v:=⟨k.mono (by simp),XQ rfl⟩
theorem bL.trans{w1:World}(a:bL f w1 v z4)(b:bL w1 y z4 z6):bL f y v z6:=by
 refine⟨⟨b.Zbw.os.trans a.Zbw.os,b.Zbw.tape.trans a.Zbw.tape,b.Zbw.output.trans a.Zbw.output,XF a.Zbw.size b.Zbw.size,fun k i j=>?_⟩,?_⟩
 ·rw[b.Zbw.block k (XB i a.Zbw.size) (fun l=>?_),a.Zbw.block k i j];have e:=aX l;rcases a.Zbx with c | ⟨g,c,d⟩
  ·exact j (by rw[<-c,e];simp)
  ·rw[c]at e;cases e;omega
 ·rcases b.Zbx with e | ⟨g,e,d⟩
  ·rcases a.Zbx with c | ⟨g,c,d⟩
   ·exact XQ (e.trans c)
   ·exact XK ⟨g,e.trans c,d⟩
  ·exact XK ⟨g,e,XF a.Zbw.size d⟩
theorem bL.made(a:f.grownBy y v.Zbx)(b:v.Zbx=some S∨f.heap.size<=S):bL f y v ⟨some ⟨S,0,none⟩,M⟩ :=
 ⟨⟨a.os,a.tape,a.output,a.size,fun k c d=>a.block k c (fun e=>d (by rw[<-e];simp))⟩,by
  rcases b with e | e
  ·exact XQ e.symm
  ·exact XK ⟨S,rfl,e⟩⟩
theorem aD.Zbj(a:aD f v o)(k:aa [] f y):aD y v o:=a.Zbo (fun q b=>k.block q (a.lt b) (by simp))
structure iG(w wr:World)(h:Hd)(r:eD):Prop where
 ZbH:aD wr h r
 far:∀k,h.Zbx=some k->w.heap.size<=k
 Zbw:aa [] w wr
theorem iG.Zbj(a:iG f y v o)(k:aa [] y s):iG f s v o:=⟨a.ZbH.Zbj k,a.far,a.Zbw.trans k⟩
theorem iG.Zbt(a:iG f y v o)(g:bL y s v z4)(d:aD s z4 y2):iG f s z4 y2:=by
 refine⟨d,fun k b=>?_,⟨g.Zbw.os.trans a.Zbw.os,g.Zbw.tape.trans a.Zbw.tape,g.Zbw.output.trans a.Zbw.output,XF a.Zbw.size g.Zbw.size,fun k b _=>?_⟩⟩
 ·rcases g.Zbx with e | ⟨q,e,c⟩
  ·exact a.far k (by rw[<-e];exact b)
  ·rw[e]at b;cases b;exact XF a.Zbw.size c
 ·rw[g.Zbw.block k (XB b a.Zbw.size) (fun c=>by have:=a.far _ (aX c);omega),a.Zbw.block k b (by simp)]
theorem iG.base(a:iG y s v o)(k:aa [] f y):iG f s v o:=⟨a.ZbH,fun q b=>XF k.size (a.far q b),k.trans a.Zbw⟩
theorem bL.beside(g:bL f y v z4)(b:aD f z6 o)(a:∀k,z6.Zbx=some k->v.Zbx≠some k):aD y z6 o :=
 b.Zbo (fun q c=>g.Zbw.block q (b.lt c) (fun d=>a q c (aX d)))
theorem qW{P:Program}{l:Array Oper}{d:List Oper}{o:Oper}{a:Act}{Q:Exit->Act->World->Prop}(M:o.guard=none)(s x:Operand)(t:TypeId)(v:o.op=Op.call { callee:=Callee.builtin Builtin.append,args:=#[s,x],argTypes:=#[t,t] })(i:TypeInfo)(z:Value)(c:Nat)(h:Hd)(r:eD)(b:List Value)(C:P.underlying t=some (.slice r.e))(D:P.info? r.e=some i)(E:i.zero=some z)(F:i.size=r.size)(G:i.bytes=c)(I:z.cells.size=r.size)(J:0<r.size)(R:a.eval s=slice h.ao r.n h.cap)(k:aD H h r)(U:r.n<=1000000)(L:c<=1000)(S:a.eval x=slice (some ⟨H.heap.size,0,none⟩) 1 1)(V:b.length=r.size)(p:∀u∈b,u.oneCell'=true)(K:∀m y,aD y m ⟨r.e,r.size,r.n+1,r.xs++b⟩->bL H y h m->wpList P l Q d (a.put o.dst (slice m.ao (r.n+1) m.cap)) y) :
  wpList P l Q (o :: d) a (H.alloc (.cells b.toArray r.e)):=by
 have A:aa [] H (H.alloc (.cells b.toArray r.e)):=bH.alloc _;have O:(H.alloc (.cells b.toArray r.e)).heap[H.heap.size]?=some (.cells b.toArray r.e):=XD _ _;refine aR _ M s x t v i z c h r C D E F G I J R (k.Zbj A) ⟨H.heap.size,0,none⟩ 1 1 b S (by omega) ?_ p XR (by unfold maxLen;omega) (XF (YF (show r.n+1<=1000001 by omega) L) (by omega)) ?_
 ·intro j u N;rw[bE,ab O];simpa using N
 ·intro B f T w g q;exact K ⟨some ⟨B,0,none⟩,f⟩ T w ((bL.Zbj A).trans (bL.made g q))
theorem iG.two{l:eD}(a:iG f y v o)(b:iG f y z6 l)(i:∀k,v.Zbx=some k->z6.Zbx≠some k)(g:bL y s v z4)(m:aD s z4 y2):iG f s z4 y2/\iG f s z6 l/\∀k,z4.Zbx=some k->z6.Zbx≠some k:=by
 have j:=a.Zbt g m;refine⟨j,⟨g.beside b.ZbH (fun k c d=>i k d c),b.far,j.Zbw⟩,fun k c d=>?_⟩;rcases g.Zbx with e | ⟨q,e,n⟩
 ·exact i k (by rw[<-e];exact c) d
 ·have:=b.ZbH.lt d;rw[c]at e;cases e
  omega
def kV(w:World)(g:Nat)(sn:List Bool):Prop:=w.heap[g]?=some (.cells (sn.map bool).toArray 4)
theorem kV.cell(h:kV f S z8)(k:Nat)(b:Bool)(a:z8[k]?=some b):f.cell? ⟨S,k,none⟩=some (bool b):=by
 rw[ab h];simp[a]
theorem kV.Zbw(h:kV f S z8)(k:aa z7 f y)(a:S∉z7):kV y S z8:=k.get h a
theorem kV.set(h:kV f S z8)(k:Nat):kV (f.setCell ⟨S,k,none⟩ (bool true)) S (z8.set k true):=by
 unfold kV;rw[ae h];simp[List.map_set]
theorem RN:(prog.info? 4).map (fun i=>(i.zero,i.size,i.bytes))=some (some (bool false),1,1):=by kernel_rfl
theorem AB:madeCells (bool false).cells (l*1)=((List.replicate l false).map bool).toArray:=by
 rw[ZN];apply Array.ext
 ·rw[YJ];simp
 ·intro i a b;have e:(bool false).cells=#[bool false]:=rfl;simp[madeCells,e,Nat.mod_one]
theorem jm(p:Nat->Bool)(k:Nat):(List.range (k+1)).filter p=(List.range k).filter p++(if p k=true then [k] else []):=by
 rw[YG,Yy];congr 1;cases h:p k
 ·rw[Y9 (by rw[h];simp)];rfl
 ·rw[Zl h];rfl
def Az(bo:Option Nat):Xt:=bo.map (fun b=>⟨b,0,none⟩)
structure yW(w:World)(bo:Option Nat)(L:Xs):Prop where
 nil:bo=none ↔ L=[]
 Zbx:∀b,bo=some b->w.heap[b]?=some (.cells (dc L).toArray 9)
theorem aD.putAt(k:aD f v o)(d:v.ao=some ⟨S,0,none⟩)(j:Nat)(b:Value):aD (f.setCell ⟨S,j,none⟩ b) v ⟨o.e,o.size,o.n,o.xs.set j b⟩:=by
 refine⟨by rw[Yq];exact k.1,?_⟩;rcases k.2 with ⟨i,x⟩ | ⟨w,g,a,i,s,t,m,p,q,r⟩
 ·injection i with c
  rw[c]at d;cases d
 ·injection i with c u l
  rw[c]at d;cases d
  refine XK ⟨S,g,a.setIfInBounds j b,by rw[c,l],s,by rw[ae t],m,p,by rw[Array.size_setIfInBounds];exact q,?_⟩;rw[Zad]
  show(a.toList.set j b).take (o.n*o.size)=o.xs.set j b
  rw[<-r,ZaQ]
end Go.Proofs.YtpdholcaobgofaaGreat
