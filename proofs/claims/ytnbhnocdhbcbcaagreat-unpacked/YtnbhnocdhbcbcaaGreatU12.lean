import Derived.Test.YtnbhnocdhbcbcaaGreatU11
namespace Go.Proofs.YtnbhnocdhbcbcaaGreat
open Go.RowKit Tryz
open Value IntKind Ending
set_option maxHeartbeats 0
variable{f v:World}{l T:Nat}{k:Fs}{x:List St}{a:Nat->Hd}{I:Xv}(i:World)(S w:Nat)(M N g z4:Value)(y:Xs)(H:Nat)(n:Fs)(b:List St)(o:Nat->Hd)(d:World)(D:Nat->Nat)(L:Nat->Xs)
theorem Kv:madeCells (agg #[string ⟨#[]⟩,int i64 0,int i64 0,string ⟨#[]⟩,int i64 0,int i64 0]).cells (H*6)=(lP (List.replicate H qy)).toArray:=by
  have k:(agg #[string ⟨#[]⟩,int i64 0,int i64 0,string ⟨#[]⟩,int i64 0,int i64 0]).cells=(ob qy).toArray:=by rfl
  rw[k];apply Array.ext
  · rw[VH];simp[ED]
  · intro i f g
    rw[VH]at f;have n:i / 6<(List.replicate H qy).length:=by simp;omega
    have e:=Jj (List.replicate H qy) (i / 6) n (i % 6) (by omega);have d:i / 6*6+i % 6=i:=(by omega);have a:(List.replicate H qy)[i / 6]=qy:=(by simp);rw[d,a]at e;have j:i<(lP (List.replicate H qy)).length:=by simpa using g
    have b:(lP (List.replicate H qy)).toArray[i]=(lP (List.replicate H qy))[i]:=(by simp);rw[b];have c:some (lP (List.replicate H qy))[i]=(ob qy)[i % 6]?:=by rw[<-e,Ub j]
    have l:some (madeCells (ob qy).toArray (H*6))[i]=(ob qy)[i % 6]?:=by
      have m:i % 6=0∨i % 6=1∨i % 6=2∨i % 6=3∨i % 6=4∨i % 6=5:=(by omega);have o:(ob qy).toArray.size=6:=rfl;simp only[madeCells,Array.getElem_map,Array.getElem_range,o];rcases m with h | h | h | h | h | h <;> rw[h] <;> rfl
    exact Vw (l.trans c.symm)
theorem NS:kC b 0=List.replicate b.length qy:=by simp[kC,cU]
theorem ri(h:ae [] f v)(b:f.heap.size<=l)(a:f.heap.size<=T)(c d e g i j k:Value) :
    ae [] f (((((((v.setCell ⟨l,0,none⟩ c).setCell ⟨l,1,none⟩ d).setCell ⟨l,2,none⟩ e).setCell ⟨T,0,none⟩ g).setCell ⟨T,1,none⟩ i).setCell ⟨T,2,none⟩ j).setCell ⟨T,3,none⟩ k) :=
  ((((((h.setCell (Uo b) _).setCell (Uo b) _).setCell (Uo b) _).setCell (Uo a) _).setCell (Uo a) _).setCell (Uo a) _).setCell (Uo a) _
theorem uE(a b c:Value) :
    ae [S,w] i (((((((i.setCell ⟨S,0,none⟩ M).setCell ⟨S,1,none⟩ N).setCell ⟨S,2,none⟩ g).setCell ⟨w,0,none⟩ z4).setCell ⟨w,1,none⟩ a).setCell ⟨w,2,none⟩ b).setCell ⟨w,3,none⟩ c) :=
  (((((((ae.refl [S,w] i).setCell (Us (by simp)) _).setCell (Us (by simp)) _).setCell (Us (by simp)) _).setCell (Us (by simp)) _).setCell (Us (by simp)) _).setCell (Us (by simp)) _).setCell (Us (by simp)) _
def Fk(fs:Fs)(k0:Nat)(w:World)(e:Ending)(w':World):Prop :=
  (if((bP fs k0).1.1==0)=true then ∃(H:Nat->Hd) (g:Nat) (a7:Xu) (n7 c7:Nat),
      e=returned (tuple #[agg #[slice (H 6).ao (bP fs k0).2.2.Yt.length (H 6).cap,slice a7 n7 c7,slice (some ⟨g,0,none⟩) (bP fs k0).2.2.Yt.length (bP fs k0).2.2.Yt.length],iz dh]) /\
      iy w' (bP fs k0).2.2.Yt H/\w'.heap[g]?=some (.cells (lP (cU (bP fs k0).2.2.Yt (bP fs k0).2.2.Yt.length)).toArray 38)/\(∀k,gF H k->w.heap.size<=k)/\w.heap.size<=g
   else e=returned (tuple #[agg #[slice none 0 0,slice none 0 0,slice none 0 0],iz (bP fs k0).1]))/\ae [] w w'
set_option maxRecDepth 100000
theorem Sb(K:List Value)(g:World)(ht:bO g S w n K)(ar:H<n.length)(al:∀j,j<n.length->(ak n j).size<=1024) :
    Calls prog 54 #[pointer (some ⟨S,0,none⟩),int i64 H] g fun e v=>Fk n H g e v:=by
  obtain⟨i0,hi,az,aS,aT⟩:=UC SU;have Z:Xr _:=yL n al H;obtain⟨W,hW⟩:∃W,W=(g.alloc (.cells #[slice none 0 0,slice none 0 0,slice none 0 0] 78)).alloc (.cells #[int i64 0,string ⟨#[]⟩,int i64 0,int i64 0] 87):=⟨_,rfl⟩
  have hK:ae [] g W:=by rw[hW];exact(bM.alloc _).alloc _
  have hA:W.heap[g.heap.size]?=some (.cells #[slice none 0 0,slice none 0 0,slice none 0 0] 78):=by
    rw[hW];exact(bM.alloc _).get (Ui _ _) (by simp)
  have hF:W.heap[g.heap.size+1]?=some (.cells bH 87):=by
    rw[hW];have e:(g.alloc (.cells #[slice none 0 0,slice none 0 0,slice none 0 0] 78)).heap.size=g.heap.size+1:=by simp
    rw[<-e];exact Ui _ _
  have HW:Xr _:=hW.symm;have RD:=N8 S w H n K W (ht.Yu hK (by simp)) ar al;have ad:Xr _:=RD;clear RD hW;unfold Fk;generalize bP n H=R at *;obtain⟨⟨r,pf,pl,pc⟩,a6,d'⟩:=R;simp only[iz,dh]at ad Z ⊢;generalize d'.Yt=l at *;generalize d'.rbl=rb at *;go_enter func54,ntmps54;go_wp2_with fail;rw[HW.o];refine Ug ad.o ?_;rintro e b ⟨f,y⟩;have O:=y.get hA (by simp);have Q:=y.get hF (by simp);have hz:=y.size;have ba:=aj hF;cases hr:(r==0)
  · have ax:(r != 0)=true:=by simp[bne,hr]
    simp only[hr,Bool.false_eq_true,if_false]at f ⊢;subst f;obtain⟨a0,a1,a2⟩:=xy O;obtain⟨z0,z1,z2,z3⟩:=cZ Q;have ya:=am O;have yf:=am Q;have A:=aj O;have B:=aj Q;go_wp2_with fail;go_region
    all_goals go_wp2
    all_goals exact Um (v:=tuple #[agg #[slice none 0 0,slice none 0 0,slice none 0 0],agg #[int i64 r,string pf,int i64 pl,int i64 pc]]) (by simp[results,results54,go_sem,a0,a1,a2,z0,z1,z2,z3,A,B]) rfl ⟨rfl,(((ri (hK.trans y) (Ue _) (WY _) _ _ _ _ _ _ _).alloc _).alloc _).drew⟩
  · have ax:(r != 0)=false:=by simp[bne,hr]
    simp only[hr,if_true]at f ⊢;obtain⟨J,rfl,ai,ag⟩:=f;obtain⟨hS,hT⟩:=ai.trim;have af:J 6=wt l J 6:=(pC l J 6 (Us rfl)).symm;rw[af];have hN:∀k,gF (wt l J) k->k<b.heap.size/\g.heap.size+2<=k:=fun k t=>⟨(hT k t).1,by have:=ag k (hT k t).2;omega⟩
    clear ai ag hT af;generalize wt l J=a at *;generalize (J 7).ao=i at *;generalize (J 7).cap=m at *;generalize rb.length=s at *;clear J;have HN:Xr _:=hN;have a4:=Z.o.ok.len;obtain⟨d,C⟩:∃d,d=(b.alloc (.cells #[slice (a 6).ao l.length (a 6).cap,slice i s m] 76)).alloc (.cells #[int i64 0,string ⟨#[]⟩,int i64 0,int i64 0] 87):=⟨_,rfl⟩
    have k3:ae [] b d:=(by rw[C];exact(bM.alloc _).alloc _);have B3:d.heap[b.heap.size]?=some (.cells #[slice (a 6).ao l.length (a 6).cap,slice i s m] 76):=by
      rw[C];exact(bM.alloc _).get (Ui _ _) (by simp)
    have I:d.heap.size=b.heap.size+2:=(by rw[C];simp);have T:=hS.Yh k3;have R3:fy d b.heap.size 0 l a:=⟨⟨_,_,B3,rfl⟩,T⟩;obtain⟨r0,r1⟩:=xx B3;have an:Xr (∀v,ae [] d v->Calls prog 81 #[pointer (some ⟨b.heap.size,0,none⟩)] v fun e a3=>e=returned (int i64 l.length)/\a3=v):=fun v q=>fF b.heap.size 0 l a v (R3.Yh q);have a5:Xr (∀v,ae [] d v->v.cell? ⟨b.heap.size,0,none⟩=some (slice (a 6).ao l.length (a 6).cap)/\v.cell? ⟨b.heap.size,1,none⟩=some (slice i s m)):=fun v q=>by
      have q2:=q.get B3 (by simp);exact⟨by rw[ah q2];rfl,by rw[ah q2];rfl⟩
    have m1:=fun g=>dV (P:=prog) g 54 38 i0 _ underlying54 hi az l.length 6 aS (by rw[aT];omega) (by omega);obtain⟨D,U⟩:∃D,D=madeCells (agg #[string ⟨#[]⟩,int i64 0,int i64 0,string ⟨#[]⟩,int i64 0,int i64 0]).cells (l.length*6):=⟨_,rfl⟩
    have ac:Xr (D=(lP (kC l 0)).toArray):=cM (by rw[U,Kv,NS]);rw[<-U]at m1;clear U hN hS;have ap:Xr _:=C.symm;clear C;(go_upto_region 4 with fail);rw[ap.o];go_region_held3 (fun v=>v.cell? ⟨b.heap.size,0,none⟩=some (slice (a 6).ao l.length (a 6).cap)/\v.cell? ⟨b.heap.size,1,none⟩=some (slice i s m)) (go_keep) (first | (go_at_call 81;refine(an.o _ (by first | exact(ae.refl [] d).drew | exact((ae.refl [] d).alloc _).drew | exact(ae.refl [] d).drew.alloc _)).mono ?_;rintro e wc ⟨rfl,V⟩;rw[V]))
    · obtain⟨u,c⟩:∃u,u=((d.alloc (.cells D 38)).alloc (.cells #[slice (a 6).ao l.length (a 6).cap,slice i s m,slice (some ⟨b.heap.size+2,0,none⟩) l.length l.length] 78)).drew:=⟨_,rfl⟩
      have k4:ae [] d u:=(by rw[c];exact((bM.alloc _).alloc _).drew);have F:u.heap[b.heap.size+2+1]?=some (.cells #[slice (a 6).ao l.length (a 6).cap,slice i s m,slice (some ⟨b.heap.size+2,0,none⟩) l.length l.length] 78):=by
        rw[c];have e1:(d.alloc (.cells D 38)).heap.size=b.heap.size+2+1:=by simp[I]
        have e:=Ui (d.alloc (.cells D 38)) (.cells #[slice (a 6).ao l.length (a 6).cap,slice i s m,slice (some ⟨b.heap.size+2,0,none⟩) l.length l.length] 78);rw[e1]at e;exact bM.drew.get e (by simp)
      have G4:u.heap[b.heap.size+2]?=some (.cells (lP (kC l 0)).toArray 38):=by
        rw[c,<-ac.o];have e:=((ae.refl [] (d.alloc (.cells D 38))).alloc (.cells #[slice (a 6).ao l.length (a 6).cap,slice i s m,slice (some ⟨b.heap.size+2,0,none⟩) l.length l.length] 78)).drew.get (Ui _ _) (by simp);rw[I]at e;exact e
      rw[<-c];clear c;have RP:kp u (b.heap.size+2+1) 0 l a (b.heap.size+2) (kC l 0):=⟨⟨⟨_,_,F,rfl⟩,T.Yh k4⟩,⟨_,_,F,by rw[yx l 0 (UF _)];rfl⟩,G4⟩;have HJ:Xr _:=(ue (b.heap.size+2+1) 0 (b.heap.size+2) l a u RP Z.o.ok Z.o.prf (by omega) (fun x hx=>by have:=HN.o x hx;omega));have X:=(y.trans k3).trans k4;have A4:=X.get hA (by simp);have F4:=X.get hF (by simp);clear RP V;go_wp2_with fail;refine Ug HJ.o ?_;rintro e Y ⟨rfl,N,p⟩;have B5:=p.get F (by simp);have E:=p.get A4 (by simp;omega);have G:=p.get F4 (by simp;omega);obtain⟨b0,b1,b2⟩:=xy B5;obtain⟨a0,a1,a2⟩:=xy E;obtain⟨z0,z1,z2,z3⟩:=cZ G;have ya:=am E;have yf:=am G;have A:=aj E;have B:=aj G;have KW:ae [] g Y:=by
        have q:=(hK.trans X);exact⟨p.os.trans q.os,p.tape.trans q.tape,p.output.trans q.output,Un q.size p.size,fun k t _=>(p.block k (Ul t q.size) (by simp;omega)).trans (q.block k t (by simp))⟩
      have KS:=uE Y g.heap.size (g.heap.size+1);have M:Xr (iy Y l a):=N.recd.Yt;have L:Xr _:=N.arr;have z:Xr _:=KS;clear N KS B5 E G F A4 F4 G4;go_wp2;exact Um (v:=tuple #[agg #[slice (a 6).ao l.length (a 6).cap,slice i s m,slice (some ⟨b.heap.size+2,0,none⟩) l.length l.length],agg #[int i64 0,string ⟨#[]⟩,int i64 0,int i64 0]]) (by simp[results,results54,go_sem,a0,a1,a2,z0,z1,z2,z3]) rfl
        ⟨⟨a,b.heap.size+2,⟨i,s,m,rfl⟩,M.o.Yu (z.o _ _ _ _ _ _ _) (fun k t=>by have:=HN.o k t;simp;omega),(z.o _ _ _ _ _ _ _).get L.o (by simp;omega),fun k t=>by have:=HN.o k t;omega,by omega⟩,ri KW (Ue _) (WY _) _ _ _ _ _ _ _⟩
    all_goals
      obtain⟨u,c⟩:∃u,u=((d.alloc (.cells #[slice (a 6).ao l.length (a 6).cap,slice i s m,slice (some ⟨b.heap.size+2+1,0,none⟩) l.length l.length] 78)).alloc (.cells D 38)).drew:=⟨_,rfl⟩
      have k4:ae [] d u:=(by rw[c];exact((bM.alloc _).alloc _).drew);have F:u.heap[b.heap.size+2]?=some (.cells #[slice (a 6).ao l.length (a 6).cap,slice i s m,slice (some ⟨b.heap.size+2+1,0,none⟩) l.length l.length] 78):=by
        rw[c];have e:=((ae.refl [] (d.alloc (.cells #[slice (a 6).ao l.length (a 6).cap,slice i s m,slice (some ⟨b.heap.size+2+1,0,none⟩) l.length l.length] 78))).alloc (.cells D 38)).drew.get (Ui _ _) (by simp);rw[I]at e;exact e
      have G4:u.heap[b.heap.size+2+1]?=some (.cells (lP (kC l 0)).toArray 38):=by
        rw[c,<-ac.o];have e1:(d.alloc (.cells #[slice (a 6).ao l.length (a 6).cap,slice i s m,slice (some ⟨b.heap.size+2+1,0,none⟩) l.length l.length] 78)).heap.size=b.heap.size+2+1:=by simp[I]
        have e:=Ui (d.alloc (.cells #[slice (a 6).ao l.length (a 6).cap,slice i s m,slice (some ⟨b.heap.size+2+1,0,none⟩) l.length l.length] 78)) (.cells D 38);rw[e1]at e;exact bM.drew.get e (by simp)
      rw[<-c];clear c;have RP:kp u (b.heap.size+2) 0 l a (b.heap.size+2+1) (kC l 0):=⟨⟨⟨_,_,F,rfl⟩,T.Yh k4⟩,⟨_,_,F,by rw[yx l 0 (UF _)];rfl⟩,G4⟩;have HJ:Xr _:=(ue (b.heap.size+2) 0 (b.heap.size+2+1) l a u RP Z.o.ok Z.o.prf (by omega) (fun x hx=>by have:=HN.o x hx;omega));have X:=(y.trans k3).trans k4;have A4:=X.get hA (by simp);have F4:=X.get hF (by simp);clear RP V;go_wp2_with fail;refine Ug HJ.o ?_;rintro e Y ⟨rfl,N,p⟩;have B5:=p.get F (by simp);have E:=p.get A4 (by simp;omega);have G:=p.get F4 (by simp;omega);obtain⟨b0,b1,b2⟩:=xy B5;obtain⟨a0,a1,a2⟩:=xy E;obtain⟨z0,z1,z2,z3⟩:=cZ G;have ya:=am E;have yf:=am G;have A:=aj E;have B:=aj G;have KW:ae [] g Y:=by
        have q:=(hK.trans X);exact⟨p.os.trans q.os,p.tape.trans q.tape,p.output.trans q.output,Un q.size p.size,fun k t _=>(p.block k (Ul t q.size) (by simp;omega)).trans (q.block k t (by simp))⟩
      have KS:=uE Y g.heap.size (g.heap.size+1);have M:Xr (iy Y l a):=N.recd.Yt;have L:Xr _:=N.arr;have z:Xr _:=KS;clear N KS B5 E G F A4 F4 G4;go_wp2;exact Um (v:=tuple #[agg #[slice (a 6).ao l.length (a 6).cap,slice i s m,slice (some ⟨b.heap.size+2+1,0,none⟩) l.length l.length],agg #[int i64 0,string ⟨#[]⟩,int i64 0,int i64 0]]) (by simp[results,results54,go_sem,a0,a1,a2,z0,z1,z2,z3]) rfl
        ⟨⟨a,b.heap.size+2+1,⟨i,s,m,rfl⟩,M.o.Yu (z.o _ _ _ _ _ _ _) (fun k t=>by have:=HN.o k t;simp;omega),(z.o _ _ _ _ _ _ _).get L.o (by simp;omega),fun k t=>by have:=HN.o k t;omega,by omega⟩,ri KW (Ue _) (WY _) _ _ _ _ _ _ _⟩
structure nK(w:World)(x:Nat)(fs:Fs)(l:List St)(H:Nat->Hd)(g:Nat):Prop where
  ver:∃(a7:Xu) (n7 c7:Nat),jy w x fs true (slice (H 6).ao l.length (H 6).cap) (slice a7 n7 c7) (slice (some ⟨g,0,none⟩) l.length l.length)
  Yt:iy w l H
  arr:w.heap[g]?=some (.cells (lP (cU l l.length)).toArray 38)
  far:x≠g/\∀k,gF H k->k≠x
theorem nK.anyR(h:nK f l k x a T):lW f l k:=by
  obtain⟨b,d,c,h⟩:=h.ver;exact h.anyR
theorem nK.Yh(h:nK f l k x a T)(b:ae [] f v):nK v l k x a T:=by
  obtain⟨c,g,d,e⟩:=h.ver;exact⟨⟨c,g,d,bO.Yu e b (by simp)⟩,h.Yt.Yh b,b.get h.arr (by simp),h.far⟩
theorem nK.tellA(h:nK f l k x a T):Ro f l 10 T (cU x x.length):=by
  obtain⟨c,e,d,b⟩:=h.ver;refine⟨⟨_,_,b.1,?_⟩,h.arr⟩;rw[pZ];rfl
theorem Kf(h:ae I f v)(a:f.heap.size<=l)(b c d e:Value) :
    ae I f ((((v.setCell ⟨l,0,none⟩ b).setCell ⟨l,1,none⟩ c).setCell ⟨l,2,none⟩ d).setCell ⟨l,3,none⟩ e) :=
  (((h.setCell (Uo a) _).setCell (Uo a) _).setCell (Uo a) _).setCell (Uo a) _
theorem xU :
    ae [w] i ((((i.setCell ⟨w,0,none⟩ M).setCell ⟨w,1,none⟩ N).setCell ⟨w,2,none⟩ g).setCell ⟨w,3,none⟩ z4) :=
  ((((ae.refl [w] i).sl1 _).sl1 _).sl1 _).sl1 _
theorem sO(h:ae I f v)(a:l∈I∨f.heap.size<=l)(b:T∈I∨f.heap.size<=T)(c d e g i j k m:Value) :
    ae I f ((((((((v.setCell ⟨l,9,none⟩ c).setCell ⟨l,10,none⟩ d).setCell ⟨l,11,none⟩ e).setCell ⟨l,12,none⟩ g).setCell ⟨T,0,none⟩ i).setCell ⟨T,1,none⟩ j).setCell ⟨T,2,none⟩ k).setCell ⟨T,3,none⟩ m) :=
  (((((((h.setCell a _).setCell a _).setCell a _).setCell a _).setCell b _).setCell b _).setCell b _).setCell b _
def Is(fs:Fs)(k0 x:Nat)(w:World)(e:Ending)(w':World):Prop :=
  (if((bP fs k0).1.1==0)=true then e=returned (tuple #[iz dh,int i64 0])/\∃H g,nK w' x fs (bP fs k0).2.2.Yt H g/\w.heap.size<=g/\∀k,gF H k->w.heap.size<=k
   else e=returned (tuple #[iz (bP fs k0).1,int i64 6])/\kJ w' x fs)/\ae [x] w w'
theorem Hg(E:Xs)(m:World)(h:lW m w n)(hf:bR n E=H)(S:H<n.length)(U:∀j,j<n.length->(ak n j).size<=1024) :
    Calls prog 37 #[pointer (some ⟨w,0,none⟩),string E] m fun e V=>Is n H w m e V:=by
  have ag:=h.lt;obtain⟨W,C⟩:∃W,W=m.alloc (.cells #[int i64 0,string ⟨#[]⟩,int i64 0,int i64 0] 87):=⟨_,rfl⟩
  have hK:=fg C.symm;have hF:W.heap[m.heap.size]?=some (.cells bH 87):=by rw[C];exact Ui _ _
  have B:=h.Yu hK (by simp);have HW:Xr _:=C.symm;have Z:Calls prog 51 #[pointer (some ⟨w,0,none⟩),string E] W fun e V=>e=returned (int i64 H)/\V=W:=by
    obtain⟨an,a,b,c,hv⟩:=B;rw[<-hf];exact mD w _ n _ E W hv
  have K:Xr _:=Z;have Y:=xG w n W B;have J:Xr _:=Y;clear Z Y C;have M:=fun(X:World) (i:kJ X w n)=>Sb w _ H n _ X i S U;unfold Fk at M;have x:Xr _:=M;clear M;unfold Is;generalize bP n H=R at *;obtain⟨⟨r,pf,pl,pc⟩,af,d'⟩:=R;simp only[iz,dh]at x ⊢;generalize d'.Yt=l at *;go_enter func37,ntmps37;go_wp2_with fail;rw[HW.o];refine Ug K.o ?_;rintro e w9 ⟨rfl,rfl⟩;go_wp2_with fail;refine Ug J.o ?_;rintro e X ⟨rfl,i,t⟩;have Q:=t.get hF (by simp;omega);go_wp2_with fail;refine Ug (x.o _ i) ?_;rintro e A ⟨d,u⟩;have s:=u.get Q (by simp);have f:=i.Yu u (by simp);have y:ae [w] m A:=((hK.mono (by simp)).trans t).trans (u.mono (by simp));obtain⟨z0,z1,z2,z3⟩:=cZ s;have yf:=am s;have p:=aj s;have ac:w≠m.heap.size:=by omega
  cases D:(r==0)
  · have T:(r != 0)=true:=by simp[bne,D]
    simp only[D,Bool.false_eq_true,if_false]at d ⊢;subst d;have I:Xr _:=f;clear f i B;go_wp2;exact Um (v:=tuple #[agg #[int i64 r,string pf,int i64 pl,int i64 pc],int i64 6]) (by simp[results,results37,go_sem,z0,z1,z2,z3,p]) rfl
      ⟨⟨rfl,I.o.Yu (((xU A m.heap.size _ _ _ _).alloc _).alloc _) (by simp;omega)⟩,((Kf y (Ue _) _ _ _ _).alloc _).alloc _⟩
  · have T:(r != 0)=false:=by simp[bne,D]
    simp only[D,if_true]at d ⊢;obtain⟨F,g,a7,n7,c7,rfl,hS,hA,hN,hg⟩:=d;have al:=aj hF;have ai:=t.size;obtain⟨c9,N,O,P⟩:=jy.cells f;have yv:=bO.free f;have HT:Xr _:=jy.turn f true (slice (F 6).ao l.length (F 6).cap) (slice a7 n7 c7) (slice (some ⟨g,0,none⟩) l.length l.length);have L:Xr _:=hS;have G:Xr _:=hA;have q:Xr _:=hN;have ad:w<A.heap.size:=bO.lt f;clear f i B hS hA hN;unfold Ql at N O P;unfold EY at HT;go_wp2;exact Um (v:=tuple #[agg #[int i64 0,string ⟨#[]⟩,int i64 0,int i64 0],int i64 0]) (by simp[results,results37,go_sem,z0,z1,z2,z3,p]) rfl
      ⟨⟨rfl,F,g,⟨⟨a7,n7,c7,bO.Yu HT.o (((xU _ m.heap.size _ _ _ _).alloc _).alloc _) (by simp;omega)⟩,L.o.Yu (((sO (ae.refl [w,m.heap.size] A) (Us (by simp)) (Us (by simp)) _ _ _ _ _ _ _ _).alloc _).alloc _) (fun k z=>by have:=q.o k z;simp;omega),(((sO (ae.refl [w,m.heap.size] A) (Us (by simp)) (Us (by simp)) _ _ _ _ _ _ _ _).alloc _).alloc _).get G.o (by simp;omega),⟨by omega,fun k z=>by have:=q.o k z;omega⟩⟩,by omega,fun k z=>by have:=q.o k z;omega⟩,
        ((sO y (Us (by simp)) (Uo (Ue _)) _ _ _ _ _ _ _ _).alloc _).alloc _⟩
def oL(l:List St)(lab:Xs)(n:Nat):Bool:=match l[n]? with | some s=>(s.Yx.toList==lab.toList)&&ph s.Yw | none=>false
def lx(l:List St)(lab:Xs):Option Nat:=(List.range l.length).find? (oL l lab)
theorem Au(a:Xs)(n:Nat)(h:n<b.length):oL b a n=((b[n].Yx.toList==a.toList)&&ph b[n].Yw):=by
 unfold oL;rw[Ub h]
set_option maxRecDepth 512
theorem t7(h:fy d S w b o)(M:b.length<=1073741824) :
  Calls prog 135 #[pointer (some ⟨S,w,none⟩),string y] d fun e x=>e=returned (int i64 (oM (lx b y)))/\ae [] d x:=by
 go_enter func135,ntmps135;go_wp2
 go_loopg [5] b.length (fun g i wr=>∃k:Nat,k<=b.length/\g=b.length-k/\i=int i64 k/\Xr (∀i,i<k->oL b y i=false)/\ae [] d wr)
 ·exact⟨0,by omega,by omega,rfl,fun i t=>by omega,ae.refl _ _⟩
 obtain⟨k,L,K,rfl,a,p⟩:=hrel;have n:=h.Yh p;have c:=n.at
 by_cases l:k<b.length
 ·obtain⟨g,u,I,J,A,B,C,D,E,F,G,H⟩:=n.Yt.stmt k l;rw[u]at c;have m:Xr _:=Au b y k l;have next:Xr (oL b y k=false->∀i,i<k+1->oL b y i=false):=by
   intro v i t;by_cases e:i=k
   ·subst e;exact v
   ·exact a.o i (by omega)
  generalize b[k]=s at *;cases r:(s.Yx.toList==y.toList)
  ·have f:Xr (oL b y k=false):=(by show _=_;rw[m.o,r];simp);clear m n;go_wp2;go_roundg (b.length-(k+1))
   ·exact⟨k+1,by omega,rfl,by go_num,next.o f.o,p⟩
   omega
  ·cases q:ph s.Yw
   ·have f:Xr (oL b y k=false):=(by show _=_;rw[m.o,q];simp);clear m n;go_wp2_with (go_at_call 161;refine(dj s.Yw _ _ _ _ _ _ _ _).mono ?_;rintro e z ⟨rfl,j⟩;rw[q]);go_roundg (b.length-(k+1))
    ·exact⟨k+1,by omega,rfl,by go_num,next.o f.o,p.trans j⟩
    omega
   ·have f:Xr (lx b y=some k):=po l (by rw[m.o,r,q];rfl) a.o;clear m n;go_wp2_with (go_at_call 161;refine(dj s.Yw _ _ _ _ _ _ _ _).mono ?_;rintro e z ⟨rfl,j⟩;rw[q]);go_ret;exact⟨T0 (by rw[f.o];rfl),p.trans j⟩
 ·have f:Xr (lx b y=none):=nY (fun i t=>a.o i (by omega));clear n;go_wp2;go_ret;exact⟨T0 (by rw[f.o];rfl),p⟩
structure TH(s:St):Prop where
 Yx:s.Yx.size<=100000
 syms:∀x∈s.Yc,x.size<=100000
def CC(l:List St)(n:Nat):Option Xs:=match l[n]? with
 | some s=>if(s.Yw==2)=true then some (aL s) else none
 | none=>none
def uL(l:List St)(hs:Xv):Xt:=hs.filterMap (CC l)
theorem EL(L:Xt)(k:Nat)(x:Xs):dm (L.set k x)=(dm L).set k (string x):=by simp[dm,List.map_set]
theorem nK.recd(h:nK f l k x a T):fy f l 10 x a:=by
 obtain⟨c,e,d,b⟩:=h.ver;exact⟨⟨_,_,b.1,rfl⟩,h.Yt⟩
theorem Lo(h:fy d S w b o)(c:b.length<=1073741824) :
  Calls prog 91 #[pointer (some ⟨S,w,none⟩),string y] d fun e g=>e=returned (int i64 (oM (lx b y)))/\ae [] d g:=by
 have a:Xr _:=t7 S w y b o d h c;go_enter func91,ntmps91;go_wp2_with fail;refine Ug a.o ?_;rintro e i ⟨rfl,f⟩;go_wp2;go_ret;exact⟨rfl,f⟩
theorem LV(g:Nat)(c:Xs)(w:World)(h:nK w H n b o g)(m:b.length<=1073741824) :
  Calls prog 60 #[pointer (some ⟨H,0,none⟩),string c] w fun e q=>e=returned (match lx b c with | some i=>.tuple #[int i64 i,int i64 0] | none=>.tuple #[int i64 0,int i64 8])/\ae [] w q:=by
 have a:Xr _:=Lo H 10 c b o w h.recd m;obtain⟨s,v,t,p⟩:=h.ver;obtain⟨u,j,k,l⟩:=jy.cells p;cases f:lx b c with
 | none =>
  rw[f]at a;simp only[oM]at a;go_enter func60,ntmps60;go_wp2_with fail;refine Ug a.o ?_;rintro e r ⟨rfl,d⟩;go_wp2;go_ret2;exact⟨rfl,d⟩
 | some i =>
  rw[f]at a;simp only[oM]at a;go_enter func60,ntmps60;go_wp2_with fail;refine Ug a.o ?_;rintro e r ⟨rfl,d⟩;go_wp2;go_ret2;exact⟨rfl,d⟩
theorem Dr{a:Xs}(h:lx x a=some l):∃h:l<x.length,ph x[l].Yw=true/\x[l].Yx.toList=a.toList:=by
 unfold lx at h;have c:=Up.1 (UV h);have b:=VP h;rw[Au x a l c]at b;simp only[Bool.and_eq_true]at b;exact⟨c,b.2,by simpa using b.1⟩
def fP(l:List St)(n:Nat):Xs:=(l.getD n zN).Yx
def ij(l:List St)(n:Nat):Nat:=if nt l n=true then(aM l n).length else 0
structure uP where
 W:Xt
 sp:List (Nat×Nat)
 th:Xv
def uZ(W:Xt)(p:Nat×Nat):Xt:=(W.drop p.1).take (p.2-p.1)
def jz(c n:Nat)(th:Xv):Nat×Xv:=if c=0∨th.length<c then(n,th) else(th.getD (th.length-c) 0,th.take (th.length-c))
def xg(c:Nat->Nat)(lb:Nat->Xs)(q:uP)(s:jg):uP :=
 if(s.Yw==3)=true then⟨q.W++uZ q.W (q.sp.getD s.Yd (0,0)),q.sp++[(q.W.length,(q.W++uZ q.W (q.sp.getD s.Yd (0,0))).length)],q.th++[q.W.length]⟩
 else⟨q.W++[lb s.Yd],q.sp++[((jz (c s.Yd) q.W.length q.th).1,q.W.length+1)],(jz (c s.Yd) q.W.length q.th).2++[(jz (c s.Yd) q.W.length q.th).1]⟩
def oq(c:Nat->Nat)(lb:Nat->Xs):List jg->uP->Xt×Int
 | [],q=>(q.W,0)
 | s :: r,q=>if 64<(xg c lb q s).W.length then([],3) else oq c lb r (xg c lb q s)
theorem OZ(q:uP)(s:jg):q.W.length<=(xg D L q s).W.length:=by
 unfold xg;split <;> simp
theorem Q1(r:List jg):∀q,q.W.length<=64->oq D L r q=if 64<(r.foldl (xg D L) q).W.length then([],3) else((r.foldl (xg D L) q).W,0):=by
 have a:∀(r:List jg) q,q.W.length<=(r.foldl (xg D L) q).W.length:=by
  intro r
  induction r with
  | nil=>intro q;exact Ue _
  | cons s r b=>intro q;exact Un (OZ D L q s) (b _)
 induction r with
 | nil=>intro q h;rw[oq,List.foldl_nil,Ud (by omega)]
 | cons s r b =>
  intro q h;rw[oq,WA];split
  ·next c=>rw[Uf (Ul c (a r _))]
  ·next c=>exact b _ (by omega)
end Go.Proofs.YtnbhnocdhbcbcaaGreat
