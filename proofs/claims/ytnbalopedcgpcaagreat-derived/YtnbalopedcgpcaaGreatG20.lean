import Derived.Test.YtnbalopedcgpcaaGreatG19
namespace Go.Proofs.YtnbalopedcgpcaaGreat
open Go.RowKit Tryz
open Value renaming int->Xx,string->Xy,slice->Xz,pointer->XA,agg->XB,bool->XC,tuple->XD
open Obj renaming cells->XE
open IntKind renaming i64->XF
open Ending renaming returned->XH
open World renaming cell?->XI
open Option renaming none->XJ,some->XK
open Bool renaming true->XL,false->XM
open Go.RowKit renaming Hid->XN
open Go renaming Calls->XO,World->XP,Value->XQ
set_option maxHeartbeats 0
variable{b n:XP}{w H s:Nat}{o:Fs}{M:List St}{g:Nat->Hd}{a:List Nat}{y D:ByteArray}{k:Option Nat}{z7:XQ}(L:XP)(i l:Nat)(z8 y6 t z6:XQ)(I:ByteArray)(f:Nat)(T:Fs)(m:List St)(x:ByteArray)(d:XP)
theorem Fo:madeCells (XB #[Xy ⟨#[]⟩,Xx XF 0,Xx XF 0,Xy ⟨#[]⟩,Xx XF 0,Xx XF 0]).cells (f*6)=(ft (List.replicate f lz)).toArray:=by
  have m:(XB #[Xy ⟨#[]⟩,Xx XF 0,Xx XF 0,Xy ⟨#[]⟩,Xx XF 0,Xx XF 0]).cells=(ii lz).toArray:=by rfl
  rw[m];apply Array.ext
  · rw[QV];simp[Ah]
  · intro i g j
    rw[QV]at g;have o:i / 6<(List.replicate f lz).length:=by simp;omega
    have e:=xw (List.replicate f lz) (i / 6) o (i % 6) (by omega);have d:i / 6*6+i % 6=i:=(by omega);have a:(List.replicate f lz)[i / 6]=lz:=(by simp);rw[d,a]at e;have k:i<(ft (List.replicate f lz)).length:=by simpa using j
    have b:(ft (List.replicate f lz)).toArray[i]=(ft (List.replicate f lz))[i]:=(by simp);rw[b];have c:XK (ft (List.replicate f lz))[i]=(ii lz)[i % 6]?:=by rw[<-e,PJ k]
    have l:XK (madeCells (ii lz).toArray (f*6))[i]=(ii lz)[i % 6]?:=by
      have n:i % 6=0∨i % 6=1∨i % 6=2∨i % 6=3∨i % 6=4∨i % 6=5:=(by omega);have p:(ii lz).toArray.size=6:=rfl;simp only[madeCells,Array.getElem_map,Array.getElem_range,p];rcases n with h | h | h | h | h | h <;> rw[h] <;> rfl
    exact Qz (l.trans c.symm)
theorem Jd:fX m 0=List.replicate m.length lz:=by simp[fX,ck]
theorem jF(h:aa [] b n)(c:b.heap.size<=w)(a:b.heap.size<=H)(d e f g i j k:XQ) :
    aa [] b (((((((n.setCell ⟨w,0,XJ⟩ d).setCell ⟨w,1,XJ⟩ e).setCell ⟨w,2,XJ⟩ f).setCell ⟨H,0,XJ⟩ g).setCell ⟨H,1,XJ⟩ i).setCell ⟨H,2,XJ⟩ j).setCell ⟨H,3,XJ⟩ k) :=
  ((((((h.setCell (P7 c) _).setCell (P7 c) _).setCell (P7 c) _).setCell (P7 a) _).setCell (P7 a) _).setCell (P7 a) _).setCell (P7 a) _
theorem kN(a b c:XQ) :
    aa [i,l] L (((((((L.setCell ⟨i,0,XJ⟩ z8).setCell ⟨i,1,XJ⟩ y6).setCell ⟨i,2,XJ⟩ t).setCell ⟨l,0,XJ⟩ z6).setCell ⟨l,1,XJ⟩ a).setCell ⟨l,2,XJ⟩ b).setCell ⟨l,3,XJ⟩ c) :=
  (((((((aa.refl [i,l] L).setCell (P0 (by simp )) _).setCell (P0 (by simp )) _).setCell (P0 (by simp )) _).setCell (P0 (by simp )) _).setCell (P0 (by simp )) _).setCell (P0 (by simp )) _).setCell (P0 (by simp )) _
def AW(fs:Fs)(k0:Nat)(w:XP)(e:Ending)(w':XP):Prop :=
  (if((cQ fs k0).1.1==0)=XL then ∃(H:Nat->Hd) (g:Nat) (a7:Option Addr) (n7 c7:Nat),
      e=XH (XD #[XB #[Xz (H 6).ao (cQ fs k0).2.2.UD.length (H 6).cap,Xz a7 n7 c7,Xz (XK ⟨g,0,XJ⟩) (cQ fs k0).2.2.UD.length (cQ fs k0).2.2.UD.length],fD cy]) /\
      fG w' (cQ fs k0).2.2.UD H/\w'.heap[g]?=XK (XE (ft (ck (cQ fs k0).2.2.UD (cQ fs k0).2.2.UD.length)).toArray 69)/\(∀k,cD H k->w.heap.size<=k)/\w.heap.size<=g
   else e=XH (XD #[XB #[Xz XJ 0 0,Xz XJ 0 0,Xz XJ 0 0],fD (cQ fs k0).1]))/\aa [] w w'
set_option maxRecDepth 100000
theorem NB(ac:List XQ)(w:XP)(ht:bV w i l T ac)(a4:f<T.length)(av:∀j,j<T.length->(PH T j).size<=1024) :
    XO prog 64 #[XA (XK ⟨i,0,XJ⟩),Xx XF f] w fun e A=>AW T f w e A:=by
  have bk:=ht.lt;obtain⟨i0,hi,a6,a8,a9⟩:=Qq MT;have HG:XN _:=zW T av f;obtain⟨W,hW⟩:∃W,W=(w.alloc (XE #[Xz XJ 0 0,Xz XJ 0 0,Xz XJ 0 0] 51)).alloc (XE #[Xx XF 0,Xy ⟨#[]⟩,Xx XF 0,Xx XF 0] 85):=⟨_,rfl⟩
  have hK:aa [] w W:=by rw[hW];exact((aa.refl [] _).alloc _).alloc _
  have hA:W.heap[w.heap.size]?=XK (XE #[Xz XJ 0 0,Xz XJ 0 0,Xz XJ 0 0] 51):=by
    rw[hW];exact((aa.refl [] _).alloc _).get (PM _ _) (by simp)
  have hF:W.heap[w.heap.size+1]?=XK (XE bb 85):=by
    rw[hW];have e:(w.alloc (XE #[Xz XJ 0 0,Xz XJ 0 0,Xz XJ 0 0] 51)).heap.size=w.heap.size+1:=by simp
    rw[<-e];exact PM _ _
  have HW:XN _:=hW.symm;have RD:=Jt i l f T ac W (ht.kept hK (by simp)) a4 av;have ai:XN _:=RD;clear RD hW;unfold AW;generalize cQ T f=R at *;obtain⟨⟨r,pf,pl,pc⟩,bf,d'⟩:=R;simp only[fD,cy]at ai HG ⊢;generalize d'.UD=a at *;generalize d'.rbl=rb at *;go_enter func64,ntmps64;go_wp2_with fail;rw[HW.out];refine PU ai.out ?_;rintro e b ⟨v,z⟩;have M:=z.get hA (by simp);have ag:=z.get hF (by simp);have hz:=z.size;have bg:=ae hF;cases hr:(r==0)
  · have a5:(r != 0)=XL:=by simp[bne,hr]
    simp only[hr,Bool.false_eq_true,if_false]at v ⊢;subst v;have a0:XI b ⟨w.heap.size,0,XJ⟩=XK (Xz XJ 0 0):=by rw[ab M];rfl
    have a1:XI b ⟨w.heap.size,1,XJ⟩=XK (Xz XJ 0 0):=(by rw[ab M];rfl);have a2:XI b ⟨w.heap.size,2,XJ⟩=XK (Xz XJ 0 0):=(by rw[ab M];rfl);obtain⟨z0,z1,z2,z3⟩:=bI ag;have ya:=aw M;have yf:=aw ag;have E:=ae M;have F:=ae ag;go_wp2_with fail;go_region
    all_goals go_wp2
    all_goals exact Qg (v:=XD #[XB #[Xz XJ 0 0,Xz XJ 0 0,Xz XJ 0 0],XB #[Xx XF r,Xy pf,Xx XF pl,Xx XF pc]]) (by simp[results,results64,go_sem,a0,a1,a2,z0,z1,z2,z3,E,F]) rfl ⟨rfl,(((jF (hK.trans z) (PQ _) (Sa _) _ _ _ _ _ _ _).alloc _).alloc _).drew⟩
  · have a5:(r != 0)=XM:=by simp[bne,hr]
    simp only[hr,if_true]at v ⊢;obtain⟨Z,rfl,aq,ap⟩:=v;obtain⟨hS,hT⟩:=aq.trim;have am:Z 6=rj a Z 6:=(kj a Z 6 (P0 rfl)).symm;rw[am];have hN:∀k,cD (rj a Z) k->k<b.heap.size/\w.heap.size+2<=k:=fun k t=>⟨(hT k t).1,by have:=ap k (hT k t).2;omega⟩
    clear aq ap hT am;generalize rj a Z=H at *;generalize (Z 7).ao=m at *;generalize (Z 7).cap=n at *;generalize rb.length=o at *;clear Z;have Q:XN _:=hN;have bd:=HG.out.ok.len;obtain⟨g,N⟩:∃g,g=(b.alloc (XE #[Xz (H 6).ao a.length (H 6).cap,Xz m o n] 48)).alloc (XE #[Xx XF 0,Xy ⟨#[]⟩,Xx XF 0,Xx XF 0] 85):=⟨_,rfl⟩
    have k3:aa [] b g:=(by rw[N];exact((aa.refl [] _).alloc _).alloc _);have B3:g.heap[b.heap.size]?=XK (XE #[Xz (H 6).ao a.length (H 6).cap,Xz m o n] 48):=by
      rw[N];exact((aa.refl [] _).alloc _).get (PM _ _) (by simp)
    have G:g.heap.size=b.heap.size+2:=(by rw[N];simp);have S:=hS.Ur k3;have R3:cK g b.heap.size 0 a H:=⟨⟨_,_,B3,rfl⟩,S⟩;have r0:XI g ⟨b.heap.size,0,XJ⟩=XK (Xz (H 6).ao a.length (H 6).cap):=(by rw[ab B3];rfl);have r1:XI g ⟨b.heap.size,1,XJ⟩=XK (Xz m o n):=(by rw[ab B3];rfl);have az:XN (∀A,aa [] g A->XO prog 79 #[XA (XK ⟨b.heap.size,0,XJ⟩)] A fun e bc=>e=XH (Xx XF a.length)/\bc=A):=fun A q=>dr b.heap.size 0 a H A (R3.Ur q);have be:XN (∀A,aa [] g A->XI A ⟨b.heap.size,0,XJ⟩=XK (Xz (H 6).ao a.length (H 6).cap)/\XI A ⟨b.heap.size,1,XJ⟩=XK (Xz m o n)):=fun A q=>by
      have q2:=q.get B3 (by simp);exact⟨by rw[ab q2];rfl,by rw[ab q2];rfl⟩
    have m1:=fun w=>bR (P:=prog) w 49 69 i0 _ underlying49 hi a6 a.length 6 a8 (by rw[a9];omega) (by omega);obtain⟨I,ah⟩:∃I,I=madeCells (XB #[Xy ⟨#[]⟩,Xx XF 0,Xx XF 0,Xy ⟨#[]⟩,Xx XF 0,Xx XF 0]).cells (a.length*6):=⟨_,rfl⟩
    have ad:XN (I=(ft (fX a 0)).toArray):=(by show _=_;rw[ah,Fo,Jd]);rw[<-ah]at m1;clear ah hN hS;have a3:XN _:=N.symm;clear N;(go_upto_region 4 with fail);rw[a3.out];go_region_held3 (fun A=>XI A ⟨b.heap.size,0,XJ⟩=XK (Xz (H 6).ao a.length (H 6).cap)/\XI A ⟨b.heap.size,1,XJ⟩=XK (Xz m o n)) (go_keep) (first | (go_at_call 79;refine(az.out _ (by first | exact(aa.refl [] g).drew | exact((aa.refl [] g).alloc _).drew | exact(aa.refl [] g).drew.alloc _)).mono ?_;rintro e wc ⟨rfl,U⟩;rw[U]))
    · obtain⟨s,c⟩:∃s,s=((g.alloc (XE I 69)).alloc (XE #[Xz (H 6).ao a.length (H 6).cap,Xz m o n,Xz (XK ⟨b.heap.size+2,0,XJ⟩) a.length a.length] 51)).drew:=⟨_,rfl⟩
      have k4:aa [] g s:=(by rw[c];exact(((aa.refl [] _).alloc _).alloc _).drew);have B:s.heap[b.heap.size+2+1]?=XK (XE #[Xz (H 6).ao a.length (H 6).cap,Xz m o n,Xz (XK ⟨b.heap.size+2,0,XJ⟩) a.length a.length] 51):=by
        rw[c];have e1:(g.alloc (XE I 69)).heap.size=b.heap.size+2+1:=by simp[G]
        have e:=PM (g.alloc (XE I 69)) (XE #[Xz (H 6).ao a.length (H 6).cap,Xz m o n,Xz (XK ⟨b.heap.size+2,0,XJ⟩) a.length a.length] 51);rw[e1]at e;exact(aa.refl [] _).drew.get e (by simp)
      have Y:s.heap[b.heap.size+2]?=XK (XE (ft (fX a 0)).toArray 69):=by
        rw[c,<-ad.out];have e:=((aa.refl [] (g.alloc (XE I 69))).alloc (XE #[Xz (H 6).ao a.length (H 6).cap,Xz m o n,Xz (XK ⟨b.heap.size+2,0,XJ⟩) a.length a.length] 51)).drew.get (PM _ _) (by simp);rw[G]at e;exact e
      rw[<-c];clear c;have RP:gX s (b.heap.size+2+1) 0 a H (b.heap.size+2) (fX a 0):=⟨⟨⟨_,_,B,rfl⟩,S.Ur k4⟩,⟨_,_,B,by rw[pn a 0 (Qx _)];rfl⟩,Y⟩;have HJ:XN _:=(kE (b.heap.size+2+1) 0 (b.heap.size+2) a H s RP HG.out.ok HG.out.prf (by omega) (fun x hx=>by have:=Q.out x hx;omega));have O:=(z.trans k3).trans k4;have V:=O.get hA (by simp);have X:=O.get hF (by simp);clear RP U;go_wp2_with fail;refine PU HJ.out ?_;rintro e d ⟨rfl,L,p⟩;have C:=p.get B (by simp);have u:=p.get V (by simp;omega);have D:=p.get X (by simp;omega);have b0:XI d ⟨b.heap.size+2+1,0,XJ⟩=XK (Xz (H 6).ao a.length (H 6).cap):=by rw[ab C];rfl
      have b1:XI d ⟨b.heap.size+2+1,1,XJ⟩=XK (Xz m o n):=(by rw[ab C];rfl);have b2:XI d ⟨b.heap.size+2+1,2,XJ⟩=XK (Xz (XK ⟨b.heap.size+2,0,XJ⟩) a.length a.length):=(by rw[ab C];rfl);have a0:XI d ⟨w.heap.size,0,XJ⟩=XK (Xz XJ 0 0):=(by rw[ab u];rfl);have a1:XI d ⟨w.heap.size,1,XJ⟩=XK (Xz XJ 0 0):=(by rw[ab u];rfl);have a2:XI d ⟨w.heap.size,2,XJ⟩=XK (Xz XJ 0 0):=(by rw[ab u];rfl);obtain⟨z0,z1,z2,z3⟩:=bI D;have ya:=aw u;have yf:=aw D;have E:=ae u;have F:=ae D;have KW:aa [] w d:=by
        have q:=(hK.trans O);exact⟨p.os.trans q.os,p.tape.trans q.tape,p.output.trans q.output,Qk q.size p.size,fun k t _=>(p.block k (PY t q.size) (by simp;omega)).trans (q.block k t (by simp))⟩
      have KS:=kN d w.heap.size (w.heap.size+1);have K:XN (fG d a H):=L.recd.UD;have J:XN _:=L.arr;have y:XN _:=KS;clear L KS C u D B V X Y;go_wp2;exact Qg (v:=XD #[XB #[Xz (H 6).ao a.length (H 6).cap,Xz m o n,Xz (XK ⟨b.heap.size+2,0,XJ⟩) a.length a.length],XB #[Xx XF 0,Xy ⟨#[]⟩,Xx XF 0,Xx XF 0]]) (by simp[results,results64,go_sem,a0,a1,a2,z0,z1,z2,z3]) rfl
        ⟨⟨H,b.heap.size+2,⟨m,o,n,rfl⟩,K.out.kept (y.out _ _ _ _ _ _ _) (fun k t=>by have:=Q.out k t;simp;omega),(y.out _ _ _ _ _ _ _).get J.out (by simp;omega),fun k t=>by have:=Q.out k t;omega,by omega⟩,jF KW (PQ _) (Sa _) _ _ _ _ _ _ _⟩
    · obtain⟨s,c⟩:∃s,s=((g.alloc (XE #[Xz (H 6).ao a.length (H 6).cap,Xz m o n,Xz (XK ⟨b.heap.size+2+1,0,XJ⟩) a.length a.length] 51)).alloc (XE I 69)).drew:=⟨_,rfl⟩
      have k4:aa [] g s:=(by rw[c];exact(((aa.refl [] _).alloc _).alloc _).drew);have B:s.heap[b.heap.size+2]?=XK (XE #[Xz (H 6).ao a.length (H 6).cap,Xz m o n,Xz (XK ⟨b.heap.size+2+1,0,XJ⟩) a.length a.length] 51):=by
        rw[c];have e:=((aa.refl [] (g.alloc (XE #[Xz (H 6).ao a.length (H 6).cap,Xz m o n,Xz (XK ⟨b.heap.size+2+1,0,XJ⟩) a.length a.length] 51))).alloc (XE I 69)).drew.get (PM _ _) (by simp);rw[G]at e;exact e
      have Y:s.heap[b.heap.size+2+1]?=XK (XE (ft (fX a 0)).toArray 69):=by
        rw[c,<-ad.out];have e1:(g.alloc (XE #[Xz (H 6).ao a.length (H 6).cap,Xz m o n,Xz (XK ⟨b.heap.size+2+1,0,XJ⟩) a.length a.length] 51)).heap.size=b.heap.size+2+1:=by simp[G]
        have e:=PM (g.alloc (XE #[Xz (H 6).ao a.length (H 6).cap,Xz m o n,Xz (XK ⟨b.heap.size+2+1,0,XJ⟩) a.length a.length] 51)) (XE I 69);rw[e1]at e;exact(aa.refl [] _).drew.get e (by simp)
      rw[<-c];clear c;have RP:gX s (b.heap.size+2) 0 a H (b.heap.size+2+1) (fX a 0):=⟨⟨⟨_,_,B,rfl⟩,S.Ur k4⟩,⟨_,_,B,by rw[pn a 0 (Qx _)];rfl⟩,Y⟩;have HJ:XN _:=(kE (b.heap.size+2) 0 (b.heap.size+2+1) a H s RP HG.out.ok HG.out.prf (by omega) (fun x hx=>by have:=Q.out x hx;omega));have O:=(z.trans k3).trans k4;have V:=O.get hA (by simp);have X:=O.get hF (by simp);clear RP U;go_wp2_with fail;refine PU HJ.out ?_;rintro e d ⟨rfl,L,p⟩;have C:=p.get B (by simp);have u:=p.get V (by simp;omega);have D:=p.get X (by simp;omega);have b0:XI d ⟨b.heap.size+2,0,XJ⟩=XK (Xz (H 6).ao a.length (H 6).cap):=by rw[ab C];rfl
      have b1:XI d ⟨b.heap.size+2,1,XJ⟩=XK (Xz m o n):=(by rw[ab C];rfl);have b2:XI d ⟨b.heap.size+2,2,XJ⟩=XK (Xz (XK ⟨b.heap.size+2+1,0,XJ⟩) a.length a.length):=(by rw[ab C];rfl);have a0:XI d ⟨w.heap.size,0,XJ⟩=XK (Xz XJ 0 0):=(by rw[ab u];rfl);have a1:XI d ⟨w.heap.size,1,XJ⟩=XK (Xz XJ 0 0):=(by rw[ab u];rfl);have a2:XI d ⟨w.heap.size,2,XJ⟩=XK (Xz XJ 0 0):=(by rw[ab u];rfl);obtain⟨z0,z1,z2,z3⟩:=bI D;have ya:=aw u;have yf:=aw D;have E:=ae u;have F:=ae D;have KW:aa [] w d:=by
        have q:=(hK.trans O);exact⟨p.os.trans q.os,p.tape.trans q.tape,p.output.trans q.output,Qk q.size p.size,fun k t _=>(p.block k (PY t q.size) (by simp;omega)).trans (q.block k t (by simp))⟩
      have KS:=kN d w.heap.size (w.heap.size+1);have K:XN (fG d a H):=L.recd.UD;have J:XN _:=L.arr;have y:XN _:=KS;clear L KS C u D B V X Y;go_wp2;exact Qg (v:=XD #[XB #[Xz (H 6).ao a.length (H 6).cap,Xz m o n,Xz (XK ⟨b.heap.size+2+1,0,XJ⟩) a.length a.length],XB #[Xx XF 0,Xy ⟨#[]⟩,Xx XF 0,Xx XF 0]]) (by simp[results,results64,go_sem,a0,a1,a2,z0,z1,z2,z3]) rfl
        ⟨⟨H,b.heap.size+2+1,⟨m,o,n,rfl⟩,K.out.kept (y.out _ _ _ _ _ _ _) (fun k t=>by have:=Q.out k t;simp;omega),(y.out _ _ _ _ _ _ _).get J.out (by simp;omega),fun k t=>by have:=Q.out k t;omega,by omega⟩,jF KW (PQ _) (Sa _) _ _ _ _ _ _ _⟩
    · obtain⟨s,c⟩:∃s,s=((g.alloc (XE #[Xz (H 6).ao a.length (H 6).cap,Xz m o n,Xz (XK ⟨b.heap.size+2+1,0,XJ⟩) a.length a.length] 51)).alloc (XE I 69)).drew:=⟨_,rfl⟩
      have k4:aa [] g s:=(by rw[c];exact(((aa.refl [] _).alloc _).alloc _).drew);have B:s.heap[b.heap.size+2]?=XK (XE #[Xz (H 6).ao a.length (H 6).cap,Xz m o n,Xz (XK ⟨b.heap.size+2+1,0,XJ⟩) a.length a.length] 51):=by
        rw[c];have e:=((aa.refl [] (g.alloc (XE #[Xz (H 6).ao a.length (H 6).cap,Xz m o n,Xz (XK ⟨b.heap.size+2+1,0,XJ⟩) a.length a.length] 51))).alloc (XE I 69)).drew.get (PM _ _) (by simp);rw[G]at e;exact e
      have Y:s.heap[b.heap.size+2+1]?=XK (XE (ft (fX a 0)).toArray 69):=by
        rw[c,<-ad.out];have e1:(g.alloc (XE #[Xz (H 6).ao a.length (H 6).cap,Xz m o n,Xz (XK ⟨b.heap.size+2+1,0,XJ⟩) a.length a.length] 51)).heap.size=b.heap.size+2+1:=by simp[G]
        have e:=PM (g.alloc (XE #[Xz (H 6).ao a.length (H 6).cap,Xz m o n,Xz (XK ⟨b.heap.size+2+1,0,XJ⟩) a.length a.length] 51)) (XE I 69);rw[e1]at e;exact(aa.refl [] _).drew.get e (by simp)
      rw[<-c];clear c;have RP:gX s (b.heap.size+2) 0 a H (b.heap.size+2+1) (fX a 0):=⟨⟨⟨_,_,B,rfl⟩,S.Ur k4⟩,⟨_,_,B,by rw[pn a 0 (Qx _)];rfl⟩,Y⟩;have HJ:XN _:=(kE (b.heap.size+2) 0 (b.heap.size+2+1) a H s RP HG.out.ok HG.out.prf (by omega) (fun x hx=>by have:=Q.out x hx;omega));have O:=(z.trans k3).trans k4;have V:=O.get hA (by simp);have X:=O.get hF (by simp);clear RP U;go_wp2_with fail;refine PU HJ.out ?_;rintro e d ⟨rfl,L,p⟩;have C:=p.get B (by simp);have u:=p.get V (by simp;omega);have D:=p.get X (by simp;omega);have b0:XI d ⟨b.heap.size+2,0,XJ⟩=XK (Xz (H 6).ao a.length (H 6).cap):=by rw[ab C];rfl
      have b1:XI d ⟨b.heap.size+2,1,XJ⟩=XK (Xz m o n):=(by rw[ab C];rfl);have b2:XI d ⟨b.heap.size+2,2,XJ⟩=XK (Xz (XK ⟨b.heap.size+2+1,0,XJ⟩) a.length a.length):=(by rw[ab C];rfl);have a0:XI d ⟨w.heap.size,0,XJ⟩=XK (Xz XJ 0 0):=(by rw[ab u];rfl);have a1:XI d ⟨w.heap.size,1,XJ⟩=XK (Xz XJ 0 0):=(by rw[ab u];rfl);have a2:XI d ⟨w.heap.size,2,XJ⟩=XK (Xz XJ 0 0):=(by rw[ab u];rfl);obtain⟨z0,z1,z2,z3⟩:=bI D;have ya:=aw u;have yf:=aw D;have E:=ae u;have F:=ae D;have KW:aa [] w d:=by
        have q:=(hK.trans O);exact⟨p.os.trans q.os,p.tape.trans q.tape,p.output.trans q.output,Qk q.size p.size,fun k t _=>(p.block k (PY t q.size) (by simp;omega)).trans (q.block k t (by simp))⟩
      have KS:=kN d w.heap.size (w.heap.size+1);have K:XN (fG d a H):=L.recd.UD;have J:XN _:=L.arr;have y:XN _:=KS;clear L KS C u D B V X Y;go_wp2;exact Qg (v:=XD #[XB #[Xz (H 6).ao a.length (H 6).cap,Xz m o n,Xz (XK ⟨b.heap.size+2+1,0,XJ⟩) a.length a.length],XB #[Xx XF 0,Xy ⟨#[]⟩,Xx XF 0,Xx XF 0]]) (by simp[results,results64,go_sem,a0,a1,a2,z0,z1,z2,z3]) rfl
        ⟨⟨H,b.heap.size+2+1,⟨m,o,n,rfl⟩,K.out.kept (y.out _ _ _ _ _ _ _) (fun k t=>by have:=Q.out k t;simp;omega),(y.out _ _ _ _ _ _ _).get J.out (by simp;omega),fun k t=>by have:=Q.out k t;omega,by omega⟩,jF KW (PQ _) (Sa _) _ _ _ _ _ _ _⟩
structure fC(w:XP)(x:Nat)(fs:Fs)(l:List St)(H:Nat->Hd)(g:Nat):Prop where
  ver:∃(a7:Option Addr) (n7 c7:Nat),jg w x fs XL (Xz (H 6).ao l.length (H 6).cap) (Xz a7 n7 c7) (Xz (XK ⟨g,0,XJ⟩) l.length l.length)
  UD:fG w l H
  arr:w.heap[g]?=XK (XE (ft (ck l l.length)).toArray 69)
  far:x≠g/\∀k,cD H k->k≠x
theorem fC.anyR(h:fC b w o M g H):br b w o:=by
  obtain⟨a,d,c,h⟩:=h.ver;exact h.anyR
theorem fC.Ur(h:fC b w o M g H)(k:aa [] b n):fC n w o M g H:=by
  obtain⟨a,e,c,d⟩:=h.ver;exact⟨⟨a,e,c,bV.kept d k (by simp)⟩,h.UD.Ur k,k.get h.arr (by simp),h.far⟩
theorem fC.tellA(h:fC b w o M g H):ny b w 10 H (ck M M.length):=by
  obtain⟨c,e,d,a⟩:=h.ver;refine⟨⟨_,_,a.1,?_⟩,h.arr⟩;rw[iw];rfl
set_option maxRecDepth 512
theorem kT(h:fy d f T) :
    XO prog 33 #[XA (XK ⟨f,0,XJ⟩)] d fun e g=>e=XH (Xz XJ 0 0)/\g=d:=by
  have c:=(jg.cells h).2.2.2;have b:=Gk f 10 d c;have a:XN _:=b;clear b c;go_enter func33,ntmps33;go_wp2_with fail;refine PU a.out ?_;rintro e i ⟨rfl,rfl⟩;go_wp2;go_ret;exact⟨rfl,rfl⟩
theorem vV(H:Nat->Hd)(g:Nat)(w:XP)(h:fC w f T m H g)(n:m.length<=10000) :
    XO prog 33 #[XA (XK ⟨f,0,XJ⟩)] w fun e d=>∃a:Option Nat,e=XH (eV a (f9 m).length)/\dq d a (f9 m)/\(∀k,a=XK k->w.heap.size<=k)/\aa [] w d:=by
  have c:=Gj f 10 g (ck m m.length) w h.tellA (by rw[iw];exact n);have b:XN _:=c;clear c;go_enter func33,ntmps33;go_wp2_with fail;refine PU b.out ?_;rintro e o ⟨a,rfl,i,j,l⟩;go_wp2;go_ret;exact⟨a,rfl,i,j,l⟩
theorem EZ(h:aa a b n)(c:b.heap.size<=w)(d e f g:XQ) :
    aa a b ((((n.setCell ⟨w,0,XJ⟩ d).setCell ⟨w,1,XJ⟩ e).setCell ⟨w,2,XJ⟩ f).setCell ⟨w,3,XJ⟩ g) :=
  (((h.setCell (P7 c) _).setCell (P7 c) _).setCell (P7 c) _).setCell (P7 c) _
theorem sI :
    aa [l] L ((((L.setCell ⟨l,0,XJ⟩ z8).setCell ⟨l,1,XJ⟩ y6).setCell ⟨l,2,XJ⟩ t).setCell ⟨l,3,XJ⟩ z6) :=
  ((((aa.refl [l] L).setCell (P0 (by simp)) _).setCell (P0 (by simp)) _).setCell (P0 (by simp)) _).setCell (P0 (by simp)) _
theorem nC(h:aa a b n)(c:w∈a∨b.heap.size<=w)(d:H∈a∨b.heap.size<=H)(e f g i j k l m:XQ) :
    aa a b ((((((((n.setCell ⟨w,9,XJ⟩ e).setCell ⟨w,10,XJ⟩ f).setCell ⟨w,11,XJ⟩ g).setCell ⟨w,12,XJ⟩ i).setCell ⟨H,0,XJ⟩ j).setCell ⟨H,1,XJ⟩ k).setCell ⟨H,2,XJ⟩ l).setCell ⟨H,3,XJ⟩ m) :=
  (((((((h.setCell c _).setCell c _).setCell c _).setCell c _).setCell d _).setCell d _).setCell d _).setCell d _
def Dn(fs:Fs)(k0 x:Nat)(w:XP)(e:Ending)(w':XP):Prop :=
  (if((cQ fs k0).1.1==0)=XL then e=XH (XD #[fD cy,Xx XF 0])/\∃H g,fC w' x fs (cQ fs k0).2.2.UD H g/\w.heap.size<=g/\∀k,cD H k->w.heap.size<=k
   else e=XH (XD #[fD (cQ fs k0).1,Xx XF 6])/\fy w' x fs)/\aa [x] w w'
set_option maxRecDepth 100000
theorem C7(h:br d l T)(hf:dY T x=f)(O:f<T.length)(Q:∀j,j<T.length->(PH T j).size<=1024) :
    XO prog 32 #[XA (XK ⟨l,0,XJ⟩),Xy x] d fun e U=>Dn T f l d e U:=by
  have am:=h.lt;obtain⟨W,B⟩:∃W,W=d.alloc (XE #[Xx XF 0,Xy ⟨#[]⟩,Xx XF 0,Xx XF 0] 85):=⟨_,rfl⟩
  have hK:aa [] d W:=by rw[B];exact(aa.refl [] _).alloc _
  have hF:W.heap[d.heap.size]?=XK (XE bb 85):=by rw[B];exact PM _ _
  have A:=h.kept hK (by simp);have HW:XN _:=B.symm;have Y:XO prog 48 #[XA (XK ⟨l,0,XJ⟩),Xy x] W fun e U=>e=XH (Xx XF f)/\U=W:=by
    obtain⟨az,a,b,c,hv⟩:=A;rw[<-hf];exact jV l _ T _ x W hv
  have G:XN _:=Y;have X:=yK l T W A;have F:XN _:=X;clear Y X B;have ah:¬((f:Int)<0):=by omega
  have J:=fun(V:XP) (n:fy V l T)=>NB l _ f T _ V n O Q;unfold AW at J;have u:XN _:=J;clear J;unfold Dn;generalize cQ T f=R at *;obtain⟨⟨r,pf,pl,pc⟩,ag,d'⟩:=R;simp only[fD,cy]at u ⊢;generalize d'.UD=S at *;go_enter func32,ntmps32;go_wp2_with fail;rw[HW.out];refine PU G.out ?_;rintro e w9 ⟨rfl,rfl⟩;go_wp2_with fail;refine PU F.out ?_;rintro e V ⟨rfl,n,t⟩;have N:=t.get hF (by simp;omega);go_wp2_with fail;refine PU (u.out _ n) ?_;rintro e z ⟨i,o⟩;have s:=o.get N (by simp);have m:=n.kept o (by simp);have w:aa [l] d z:=((hK.mono (by simp)).trans t).trans (o.mono (by simp));obtain⟨z0,z1,z2,z3⟩:=bI s;have yf:=aw s;have p:=ae s;have ai:d.heap.size≠l:=by omega
  have ac:l≠d.heap.size:=by omega
  cases C:(r==0)
  · have P:(r != 0)=XL:=by simp[bne,C]
    simp only[C,Bool.false_eq_true,if_false]at i ⊢;subst i;have E:XN _:=m;clear m n A;go_wp2;exact Qg (v:=XD #[XB #[Xx XF r,Xy pf,Xx XF pl,Xx XF pc],Xx XF 6]) (by simp[results,results32,go_sem,z0,z1,z2,z3,p]) rfl
      ⟨⟨rfl,E.out.kept (((sI z d.heap.size _ _ _ _).alloc _).alloc _) (by simp;omega)⟩,((EZ w (PQ _) _ _ _ _).alloc _).alloc _⟩
  · have P:(r != 0)=XM:=by simp[bne,C]
    simp only[C,if_true]at i ⊢;obtain⟨H,g,a7,n7,c7,rfl,hS,hA,hN,hg⟩:=i;have av:=ae hF;have ap:=t.size;have aq:=o.size;obtain⟨c9,K,L,M⟩:=jg.cells m;have yv:=bV.free m;have Z:XN _:=jg.turn m XL (Xz (H 6).ao S.length (H 6).cap) (Xz a7 n7 c7) (Xz (XK ⟨g,0,XJ⟩) S.length S.length);have I:XN _:=hS;have D:XN _:=hA;have q:XN _:=hN;have ad:l<z.heap.size:=bV.lt m;clear m n A hS hA hN;unfold LD at K L M;unfold Az at Z;go_wp2;exact Qg (v:=XD #[XB #[Xx XF 0,Xy ⟨#[]⟩,Xx XF 0,Xx XF 0],Xx XF 0]) (by simp[results,results32,go_sem,z0,z1,z2,z3,p]) rfl
      ⟨⟨rfl,H,g,⟨⟨a7,n7,c7,bV.kept Z.out (((sI _ d.heap.size _ _ _ _).alloc _).alloc _) (by simp;omega)⟩,I.out.kept (((nC (aa.refl [l,d.heap.size] z) (P0 (by simp)) (P0 (by simp)) _ _ _ _ _ _ _ _).alloc _).alloc _) (fun k y=>by have:=q.out k y;simp;omega),(((nC (aa.refl [l,d.heap.size] z) (P0 (by simp)) (P0 (by simp)) _ _ _ _ _ _ _ _).alloc _).alloc _).get D.out (by simp;omega),⟨by omega,fun k y=>by have:=q.out k y;omega⟩⟩,by omega,fun k y=>by have:=q.out k y;omega⟩,
        ((nC w (P0 (by simp)) (P7 (PQ _)) _ _ _ _ _ _ _ _).alloc _).alloc _⟩
theorem zx:iA ⟨#[109]⟩=XL:=by decide +kernel
def jz(fs:Fs):Prop:=∀j,j<fs.length->(PH fs j).size<=1024
def O4(N:Nat)(fs:Fs):Prop:=((∃k:Nat,k<fs.length/\dY fs ⟨#[109]⟩=k)/\fs.length<=N+1)∨(dY fs ⟨#[109]⟩=-1/\fs.length<=N)
def or(N:Nat)(fs:Fs):Prop:=O4 N fs/\jz fs
theorem qM:jz o ↔ ∀f∈o,f.2.size<=1024:=by
 constructor
 ·intro h f c;obtain⟨i,a,rfl⟩:=QN c;have:=h i a;unfold PH at this;rw[PK,PJ a]at this;exact this
 ·intro h j b;unfold PH;rw[PK,PJ b];exact h _ (PT b)
theorem yS(h:jz o)(k:Nat)(n d:ByteArray)(b:d.size<=1024):jz (o.set k (n,d)):=by
 rw[qM]at h ⊢;intro f a;rcases List.mem_or_eq_of_mem_set a with a | rfl
 ·exact h f a
 ·exact b
theorem wE(h:jz o)(n d:ByteArray)(b:d.size<=1024):jz (o++[(n,d)]):=by
 rw[qM]at h ⊢;intro f a;rcases Qo.1 a with a | a
 ·exact h f a
 ·rw[Qn.1 a];exact b
theorem yR:jz []:=fun j a=>by simp at a
theorem wF(a:Fs)(i j:Nat)(c:j<a.length)(h:bY I a i=((i+j:Nat):Int)):bY I (a.set j (I,x)) i=((i+j:Nat):Int):=by
 induction a generalizing i j with
 | nil=>simp at c
 | cons f r d =>
  cases j with
  | zero=>simp[bY]
  | succ j =>
   rw[bY]at h;split at h
   ·omega
   ·next b =>
    rw[Tu,bY,PV b];have:=d (i+1) j (by simpa using c) (by rw[h];omega);rw[this];omega
theorem ur(a:Fs)(i:Nat)(h:bY I a i=-1):bY I (a++[(I,x)]) i=((i+a.length:Nat):Int):=by
 induction a generalizing i with
 | nil=>simp[bY]
 | cons f r c =>
  rw[bY]at h;split at h
  ·omega
  ·next b =>
   rw[TO,bY,PV b,c (i+1) h];simp;omega
theorem MY(l:w<=3)(a:Fs)(t:ByteArray)(h:or w a)(j:¬1024<t.size) :
  ∃(k:Nat) (b:Fs),iV a ⟨#[109]⟩ t=(0,b)/\k<b.length/\k<4/\dY b ⟨#[109]⟩=k/\bH b k=⟨#[109]⟩/\PH b k=t/\or w b:=by
 have i:gi ⟨#[109]⟩ t=0:=by simp[gi,zx,j]
 obtain⟨h,f⟩:=h;rcases h with ⟨⟨k,e,d⟩,g⟩ | ⟨d,g⟩
 ·have c:dY (a.set k (⟨#[109]⟩,t)) ⟨#[109]⟩=k:=by
   have:=wF ⟨#[109]⟩ t a 0 k e (by rw[show bY _ a 0=dY a ⟨#[109]⟩ from rfl,d];simp);simpa [dY] using this
  refine⟨k,a.set k (⟨#[109]⟩,t),by simp[iV,i,d],by simpa using e,by omega,c,?_,?_,P0 ⟨⟨k,by simpa using e,c⟩,by simpa using g⟩,yS f k _ _ (by omega)⟩
  ·simp[bH,e]
  ·simp[PH,e]
 ·have c:dY (a++[(⟨#[109]⟩,t)]) ⟨#[109]⟩=a.length:=by
   have:=ur ⟨#[109]⟩ t a 0 d;simpa [dY] using this
  refine⟨a.length,a++[(⟨#[109]⟩,t)],by simp[iV,i,d];omega,by simp,by omega,c,?_,?_,P0 ⟨⟨a.length,by simp,c⟩,by simpa using g⟩,wE f _ _ (by omega)⟩
  ·simp[bH]
  ·simp[PH]
theorem Js(b:1024<x.size):iV T ⟨#[109]⟩ x=(3,T):=by
 have a:gi ⟨#[109]⟩ x=3:=by simp[gi,zx,b]
 simp[iV,a]
def uf(x:Nat)(t:ByteArray)(rv:XQ):Array XQ:=#[XA (XK ⟨x,0,XJ⟩),Xy t,rv,Xx XF 0,Xz XJ 0 0,Xz XJ 0 0,Xz XJ 0 0,Xz XJ 0 0,Xz XJ 0 0]
structure aR(w:XP)(b x:Nat)(T:ByteArray)(o:Option Nat):Prop where
 blk:w.heap[b]?=XK (XE (uf x T (eV o (bu T).length)) 60)
 rows:dq w o (bu T)
 ne:∀g,o=XK g->g≠b/\g≠x
theorem aR.kept{S:List Nat}(h:aR b w H y k)(a:aa S b n)(c:w∉S)(d:∀g,k=XK g->g∉S):aR n w H y k :=
 ⟨a.get h.blk c,h.rows.kept a d,h.ne⟩
theorem aR.Ur(h:aR b w H y k)(a:aa [] b n):aR n w H y k:=h.kept a (by simp) (by simp)
theorem aR.keptX(h:aR b w H y k)(c:aa [H] b n)(d:H≠w):aR n w H y k :=
 h.kept c (by simp;omega) (fun g a=>by have:=(h.ne g a).2;simpa using this)
theorem aR.lt(h:aR b w H y k):w<b.heap.size:=ae h.blk
theorem aR.cells(h:aR b w H y k):XI b ⟨w,0,XJ⟩=XK (XA (XK ⟨H,0,XJ⟩))/\XI b ⟨w,1,XJ⟩=XK (Xy y)/\XI b ⟨w,2,XJ⟩=XK (eV k (bu y).length):=by
 refine⟨?_,?_,?_⟩ <;> (rw[ab h.blk];rfl)
theorem fw(o:Option Nat)(n:Nat):∃a k c,eV o n=Xz a k c:=by
 cases o with
 | none=>exact⟨_,_,_,rfl⟩
 | some g=>exact⟨_,_,_,rfl⟩
def eG(rv:XQ)(r:Int)(f:ByteArray)(l c e:Int):XQ:=XD #[XB #[rv,Xx XF r,Xy f,Xx XF l,Xx XF c,Xx XF e],XC XL]
theorem bG{a c d e f:XQ}(h:b.heap[w]?=XK (XE #[z7,a,c,d,e,f] 87)) :
  XI b ⟨w,0,XJ⟩=XK z7/\XI b ⟨w,1,XJ⟩=XK a/\XI b ⟨w,2,XJ⟩=XK c/\XI b ⟨w,3,XJ⟩=XK d/\XI b ⟨w,4,XJ⟩=XK e/\XI b ⟨w,5,XJ⟩=XK f:=by
 refine⟨?_,?_,?_,?_,?_,?_⟩ <;> (rw[ab h];rfl)
theorem tP(o:Option Nat)(k:Fs)(w:XP)(m:aR w i l I o)(B:br w l k)(L:l≠i)(K:1024<x.size)(y:x.size<=4294967296) :
  XO prog 29 #[XA (XK ⟨i,0,XJ⟩),Xy x] w fun e A=>e=XH (eG (Xz XJ 0 0) 0 ⟨#[]⟩ 0 0 3)/\aR A i l I o/\br A l k/\aa [l] w A:=by
 have G:=m.lt;have M:=B.lt;obtain⟨X,Y,-⟩:=m.cells;obtain⟨W,b⟩:∃W,W=(w.alloc (XE #[Xz XJ 0 0,Xx XF 0,Xy ⟨#[]⟩,Xx XF 0,Xx XF 0,Xx XF 0] 87)).alloc (XE #[Xz XJ 0 0,Xx XF 0,Xy ⟨#[]⟩,Xx XF 0,Xx XF 0,Xx XF 0] 87):=⟨_,rfl⟩
 have a:aa [] w W:=by rw[b];exact((aa.refl _ _).alloc _).alloc _
 have N:W.heap[w.heap.size]?=XK (XE #[Xz XJ 0 0,Xx XF 0,Xy ⟨#[]⟩,Xx XF 0,Xx XF 0,Xx XF 0] 87):=by
  rw[b];exact((aa.refl [] _).alloc _).get (PM _ _) (by simp)
 have O:W.heap[w.heap.size+1]?=XK (XE #[Xz XJ 0 0,Xx XF 0,Xy ⟨#[]⟩,Xx XF 0,Xx XF 0,Xx XF 0] 87):=by
  rw[b];have e:(w.alloc (XE #[Xz XJ 0 0,Xx XF 0,Xy ⟨#[]⟩,Xx XF 0,Xx XF 0,Xx XF 0] 87)).heap.size=w.heap.size+1:=by simp
  rw[<-e];exact PM _ _
 have F:XN _:=b.symm;have r:=pL l ⟨#[109]⟩ x k W (B.kept a (by simp)) (by simp[ByteArray.size]) y;rw[Js k x K]at r;have p:XN _:=r;clear r b;go_enter func29,ntmps29;go_wp2_with fail;rw[F.out];refine PU p.out ?_;rintro e E ⟨rfl,s,-,c⟩;have C:w.heap.size≠l:=by omega
 have D:w.heap.size+1≠l:=by omega
 have f:=c.get N (by simp;omega);have j:=c.get O (by simp;omega);obtain⟨P,Q,R,T,U,V⟩:=bG f;obtain⟨z0,z1,z2,z3,z4,z5⟩:=bG j;have Z:=aw f;have f1:=aw j;have q:XN (aR E i l I o):=(m.Ur a).keptX c L;have u:aa [l] w E:=(a.mono (by simp)).trans c;have d:=m.rows.lt;have n:XN (∀g,o=XK g->g∉[w.heap.size,w.heap.size+1]):=fun g J=>by have:=d g J;simp;omega
 have z:l∉[w.heap.size,w.heap.size+1]:=by simp;omega
 have t:i∉[w.heap.size,w.heap.size+1]:=by simp;omega
 have H:decide (1024<(x.size:Int))=XL:=by simp;omega
 clear d;go_wp2;refine Qg (v:=eG (Xz XJ 0 0) 0 ⟨#[]⟩ 0 0 3) (by simp[results,results29,go_sem,eG,P,Q,R,T,U,V]) rfl ⟨rfl,?_,?_,?_⟩
 ·exact q.out.kept (S:=[w.heap.size,w.heap.size+1]) (by repeat (first | refine aa.setCell ?_ (P0 (by simp)) _ | refine aa.alloc ?_ _ | refine aa.drew ?_ | exact aa.refl _ _)) t n.out
 ·exact s.kept (S:=[w.heap.size,w.heap.size+1]) (by repeat (first | refine aa.setCell ?_ (P0 (by simp)) _ | refine aa.alloc ?_ _ | refine aa.drew ?_ | exact aa.refl _ _)) z
 ·exact(by repeat (first | refine aa.setCell ?_ (P7 (by simp)) _ | refine aa.alloc ?_ _ | refine aa.drew ?_ | exact u))
def Aj(o:Option Nat)(t:ByteArray):XQ :=
  if((aJ t).1.1==0)=XL then eG (eV o (bu t).length) 0 ⟨#[]⟩ 0 0 0 else eG (Xz XJ 0 0) (aJ t).1.1 ⟨#[109]⟩ (aL t (aJ t).1.2) (bA t (aJ t).1.2) 6
theorem Dw:(binOp .eql 85 (XB #[Xx XF 0,Xy ⟨#[]⟩,Xx XF 0,Xx XF 0]) (XB #[Xx XF 0,Xy ⟨#[]⟩,Xx XF 0,Xx XF 0])).run prog d=.ok (XC XL) d:=by kernel_rfl
theorem AC(h:br d l T)(s:dY T ⟨#[109]⟩=f)(n:f<T.length)(j:f<4)(m:bH T f=⟨#[109]⟩)(b:PH T f=x)(c:jz T)(k:cS x=XM) :
    XO prog 32 #[XA (XK ⟨l,0,XJ⟩),Xy ⟨#[109]⟩] d fun e i =>
      (if((aJ x).1.1==0)=XL then e=XH (XD #[XB #[Xx XF 0,Xy ⟨#[]⟩,Xx XF 0,Xx XF 0],Xx XF 0])/\∃H g,fC i l T (aJ x).2.UD H g/\d.heap.size<=g/\∀f,cD H f->d.heap.size<=f
       else e=XH (XD #[XB #[Xx XF (aJ x).1.1,Xy ⟨#[109]⟩,Xx XF (aL x (aJ x).1.2),Xx XF (bA x (aJ x).1.2)],Xx XF 6])/\fy i l T)/\aa [l] d i:=by
  have t:(PH T f).size<=1024:=c f n;have o:=jP T f j t (by rw[b];exact tl x k);rw[m,b]at o;refine(C7 l f T ⟨#[109]⟩ d h s n c).mono ?_;rintro e i ⟨a,r⟩;refine⟨?_,r⟩;rw[o]at a;have q:(df ⟨#[109]⟩ x 0 bB)=aJ x:=rfl;rw[q]at a;unfold uT at a;cases p:((aJ x).1.1==0) with
  | true =>
    simp only[p,if_true]at a ⊢;rw[PZ (by rfl)]at a;exact a
  | false =>
    simp only[p,Bool.false_eq_true,if_false]at a ⊢;exact a
def mr(N b x:Nat)(T t:ByteArray)(o:Option Nat)(w:XP)(e:Ending)(w':XP):Prop :=
  ∃o',e=XH (Aj o' t)/\(((aJ t).1.1==0)=XL->dq w' o' (bu t))/\(∀g,o'=XK g->w.heap.size<=g)/\aR w' b x T o/\(∃fs',br w' x fs'/\or N fs')/\aa [x] w w'
theorem Mb(c:((aJ D).1.1==0)=XM)(f:aR n H s y k)(d:∃a,br n s a/\or w a)(e:aa [s] b n) :
    mr w H s y D k b (XH (eG (Xz XJ 0 0) (aJ D).1.1 ⟨#[109]⟩ (aL D (aJ D).1.2) (bA D (aJ D).1.2) 6)) n:=by
  refine⟨XJ,?_,fun h=>?_,fun g h=>(by cases h),f,d,e⟩
  · unfold Aj;rw[PV (by rw[c];simp)]
  · rw[c]at h;cases h
theorem JM{ob:Option Nat}(j:((aJ D).1.1==0)=XL)(l:eV ob (bu D).length=z7)(e:dq n ob (bu D))(i:∀g,ob=XK g->b.heap.size<=g)(f:aR n H s y k)(c:∃a,br n s a/\or w a)(d:aa [s] b n) :
    mr w H s y D k b (XH (eG z7 0 ⟨#[]⟩ 0 0 0)) n:=by
  refine⟨ob,?_,fun _=>e,i,f,c,d⟩;unfold Aj;rw[PZ j,l]
theorem d6(h:aa a b n)(c:w∈a∨b.heap.size<=w)(d e f g i:XQ)(o:Obj) :
    aa a b ((((((n.setCell ⟨w,1,XJ⟩ d).setCell ⟨w,2,XJ⟩ e).setCell ⟨w,3,XJ⟩ f).setCell ⟨w,4,XJ⟩ g).setCell ⟨w,5,XJ⟩ i).alloc o) :=
  (((((h.setCell c _).setCell c _).setCell c _).setCell c _).setCell c _).alloc o
theorem fj{p q:Nat}(h:aa a b n)(c:p∈a∨b.heap.size<=p)(l:q∈a∨b.heap.size<=q)(f g i j k d e:XQ) :
    aa a b (((((((n.setCell ⟨q,0,XJ⟩ f).setCell ⟨p,0,XJ⟩ g).setCell ⟨p,1,XJ⟩ i).setCell ⟨p,2,XJ⟩ j).setCell ⟨p,3,XJ⟩ k).setCell ⟨p,4,XJ⟩ d).setCell ⟨p,5,XJ⟩ e).drew :=
  (((((((h.setCell l _).setCell c _).setCell c _).setCell c _).setCell c _).setCell c _).setCell c _).drew
theorem gV{p q:Nat}(h:aa a b n)(c:p∈a∨b.heap.size<=p)(d:q∈a∨b.heap.size<=q)(g i j k l m r s t u e f:XQ)(o:Obj) :
    aa a b (((((((((((((n.setCell ⟨q,1,XJ⟩ g).setCell ⟨q,2,XJ⟩ i).setCell ⟨q,3,XJ⟩ j).setCell ⟨q,4,XJ⟩ k).setCell ⟨q,5,XJ⟩ l).setCell ⟨q,0,XJ⟩ m).setCell ⟨p,0,XJ⟩ r).setCell ⟨p,1,XJ⟩ s).setCell ⟨p,2,XJ⟩ t).setCell ⟨p,3,XJ⟩ u).setCell ⟨p,4,XJ⟩ e).setCell ⟨p,5,XJ⟩ f).alloc o).drew :=
  (((((((((((((h.setCell d _).setCell d _).setCell d _).setCell d _).setCell d _).setCell d _).setCell c _).setCell c _).setCell c _).setCell c _).setCell c _).setCell c _).alloc o).drew
theorem sG(h:b.heap[w]?=XK (XE #[Xz XJ 0 0,Xx XF 0,Xy ⟨#[]⟩,Xx XF 0,Xx XF 0,Xx XF 0] 87))(a c d e f:XQ)(o:Obj) :
    ((((((b.setCell ⟨w,1,XJ⟩ a).setCell ⟨w,2,XJ⟩ c).setCell ⟨w,3,XJ⟩ d).setCell ⟨w,4,XJ⟩ e).setCell ⟨w,5,XJ⟩ f).alloc o).heap[w]?=XK (XE #[Xz XJ 0 0,a,c,d,e,f] 87):=by
  refine((aa.refl [] _).alloc o).get ?_ (by simp);rw[af (af (af (af (af h 1 a) 2 c) 3 d) 4 e) 5 f];rfl
theorem fC.kept{S:List Nat}(h:fC b w o M g H)(k:aa S b n)(i:w∉S)(e:H∉S)(d:∀k,cD g k->k∉S):fC n w o M g H:=by
  obtain⟨a,j,c,f⟩:=h.ver;exact⟨⟨a,j,c,bV.kept f k i⟩,h.UD.kept k d,k.get h.arr e,h.far⟩
theorem Gp(hN:w<=3)(b x:Nat)(T t:ByteArray)(o:Option Nat)(fs:Fs)(a:XP)(hW:aR a b x T o)(hV:br a x fs)(hx:x≠b)(ht:¬1024<t.size)(hM:or w fs)(av:cS t=XM) :
    XO prog 29 #[XA (XK ⟨b,0,XJ⟩),Xy t] a fun e w'=>mr w b x T t o a e w':=by
  have bx:=hW.lt;have b4:=hV.lt;obtain⟨c0,c1,-⟩:=hW.cells;obtain⟨W,n⟩:∃W,W=(a.alloc (XE #[Xz XJ 0 0,Xx XF 0,Xy ⟨#[]⟩,Xx XF 0,Xx XF 0,Xx XF 0] 87)).alloc (XE #[Xz XJ 0 0,Xx XF 0,Xy ⟨#[]⟩,Xx XF 0,Xx XF 0,Xx XF 0] 87):=⟨_,rfl⟩
  have m:aa [] a W:=by rw[n];exact((aa.refl _ _).alloc _).alloc _
  have s0:W.heap[a.heap.size]?=XK (XE #[Xz XJ 0 0,Xx XF 0,Xy ⟨#[]⟩,Xx XF 0,Xx XF 0,Xx XF 0] 87):=by
    rw[n];exact((aa.refl [] _).alloc _).get (PM _ _) (by simp)
  have s1:W.heap[a.heap.size+1]?=XK (XE #[Xz XJ 0 0,Xx XF 0,Xy ⟨#[]⟩,Xx XF 0,Xx XF 0,Xx XF 0] 87):=by
    rw[n];have e:(a.alloc (XE #[Xz XJ 0 0,Xx XF 0,Xy ⟨#[]⟩,Xx XF 0,Xx XF 0,Xx XF 0] 87)).heap.size=a.heap.size+1:=by simp
    rw[<-e];exact PM _ _
  have HW:XN _:=n.symm;obtain⟨k,c,hp,hk,bm,hf,az,am,L⟩:=MY hN fs t hM ht;have PF:=pL x ⟨#[109]⟩ t fs W (hV.kept m (by simp)) (by simp[ByteArray.size]) (by omega);rw[hp]at PF;have a9:XN _:=PF;have VF:=fun(w':XP) (h':br w' x c)=>AC x k c t w' h' hf hk bm az am L.2 av;have HG:XN _:=(iB t (by omega) av);have ER:XN (bu t=f9 (aJ t).2.UD):=rfl;have ad:XN _:=VF;clear PF VF n hp hf az am;obtain⟨r,HR⟩:∃r,XN ((aJ t).1.1=r):=⟨_,rfl⟩
  obtain⟨p,HP⟩:∃p,XN ((aJ t).1.2=p):=⟨_,rfl⟩
  obtain⟨l,HL⟩:∃l,XN ((aJ t).2.UD=l):=⟨_,rfl⟩
  rw[HR.out,HP.out,HL.out]at ad;rw[HL.out]at HG ER;have bp:a.heap.size≠x:=by omega
  have bq:a.heap.size+1≠x:=by omega
  have j:x∉[a.heap.size,a.heap.size+1]:=by simp;omega
  have C:b∉[a.heap.size,a.heap.size+1]:=by simp;omega
  have a6:=hW.rows.lt;have z:XN (∀g,o=XK g->g∉[a.heap.size,a.heap.size+1]):=fun g N=>by have:=a6 g N;simp;omega
  clear a6;have b3:=fun(wx:XP)=>Lib.run_eql_slice_nil (P:=prog) wx 49 69 XJ 0 0 0 0 underlying49;have bf:XN (aR W b x T o):=hW.Ur m;clear hW;go_enter func29,ntmps29;go_wp2_with fail;rw[HW.out];refine PU a9.out ?_;rintro e w2 ⟨rfl,-,B,f⟩;have B:=B trivial;have D:=f.get s0 (by simp;omega);have E:=f.get s1 (by simp;omega);have K:XN (aR w2 b x T o):=bf.out.keptX f hx;have G:aa [x] a w2:=(m.mono (by simp)).trans f;obtain⟨Y,Z,y2,y3,y4,y5⟩:=bG D;obtain⟨z0,z1,z2,z3,z4,z5⟩:=bG E;have f0:=aw D;have f1:=aw E;clear c0 c1;obtain⟨c0,c1,-⟩:=K.out.cells;have bo:=K.out.lt;have b2:=f.size;have bv:=ae s1;have J:XN (∀v,fy (w2.setCell ⟨a.heap.size+1,5,XJ⟩ v) x c):=fun v=>B.kept (S:=[a.heap.size,a.heap.size+1]) ((aa.refl _ _).setCell (P0 (by simp)) _) j;go_wp2_with (go_at_call 33;refine(kT x c _ (by exact J.out _)).mono ?_;rintro e X ⟨rfl,rfl⟩);refine PU (ad.out _ (by exact(J.out _).anyR)) ?_;rintro e F ⟨d,s⟩;have u:=s.get ((P9 w2 ⟨a.heap.size+1,5,XJ⟩ (Xx XF 0) a.heap.size (by simp)).trans D) (by simp;omega);have y:F.heap[a.heap.size+1]?=XK (XE #[Xz XJ 0 0,Xx XF 0,Xy ⟨#[]⟩,Xx XF 0,Xx XF 0,Xx XF 0] 87):=s.get ((af E 5 (Xx XF 0)).trans (by simp)) (by simp;omega);have A:XN (aR F b x T o):=(K.out.kept (S:=[a.heap.size,a.heap.size+1]) ((aa.refl _ _).setCell (P0 (by simp)) _) C z.out).keptX s hx;have O:aa [x] a F:=(G.setCell (P7 (by simp)) _).trans s;have b5:=ae y;have a5:=ae u;have bw:=A.out.lt;clear Y Z y2 y3 y4 y5 z0 z1 z2 z3 z4 z5 f0 f1 c0 c1 D E s0 s1 G f s J B;obtain⟨Y,Z,y2,y3,y4,y5⟩:=bG u;obtain⟨z0,z1,z2,z3,z4,z5⟩:=bG y;have f0:=aw u;have f1:=aw y;obtain⟨c0,c1,-⟩:=A.out.cells;cases hr:(r==0)
  · simp only[hr,Bool.false_eq_true,if_false]at d
    obtain⟨rfl,ag⟩:=d;have b1:(r != 0)=XL:=(by simp[bne,hr]);have HB:XN (∀a0 a1 a2 a3 a4 I,fy ((((((F.setCell ⟨a.heap.size+1,1,XJ⟩ a0).setCell ⟨a.heap.size+1,2,XJ⟩ a1).setCell ⟨a.heap.size+1,3,XJ⟩ a2).setCell ⟨a.heap.size+1,4,XJ⟩ a3).setCell ⟨a.heap.size+1,5,XJ⟩ a4).alloc I) x c):=fun a0 a1 a2 a3 a4 I=>ag.kept (d6 (aa.refl [a.heap.size,a.heap.size+1] F) (P0 (by simp)) _ _ _ _ _ _) j;go_wp2_with (go_at_call 33;refine(kT x c _ (by exact HB.out _ _ _ _ _ _)).mono ?_;rintro e X ⟨rfl,rfl⟩);go_region
    all_goals go_wp2
    all_goals
      refine Qg (v:=eG (Xz XJ 0 0) r ⟨#[109]⟩ (aL t p) (bA t p) 6) (by simp[results,results29,go_sem,eG,a5,Y,Z,y2,y3,y4,y5]) rfl ?_;have Q:((aJ t).1.1==0)=XM:=by rw[HR.out];exact hr
      rw[<-HR.out,<-HP.out];refine Mb Q ?_ ?_ ?_
      · exact A.out.kept (S:=[a.heap.size,a.heap.size+1]) (gV (p:=a.heap.size) (q:=a.heap.size+1) (aa.refl _ _) (P0 (by simp)) (P0 (by simp)) _ _ _ _ _ _ _ _ _ _ _ _ _) C z.out
      · exact⟨c,ag.anyR.kept (S:=[a.heap.size,a.heap.size+1]) (gV (p:=a.heap.size) (q:=a.heap.size+1) (aa.refl _ _) (P0 (by simp)) (P0 (by simp)) _ _ _ _ _ _ _ _ _ _ _ _ _) j,L⟩
      · exact gV (p:=a.heap.size) (q:=a.heap.size+1) O (P7 (PQ _)) (P7 (by omega)) _ _ _ _ _ _ _ _ _ _ _ _ _
  · simp only[hr,if_true]at d
    obtain⟨rfl,H,g,M,bk,ah⟩:=d;simp only[World.size_setCell]at bk ah;have aq:=HG.out.ok.len;have bl:g∉[a.heap.size,a.heap.size+1]:=(by simp;omega);have a7:XN (∀k,cD H k->k∉[a.heap.size,a.heap.size+1]):=fun k hk=>by have:=ah k hk;simp;omega
    have b0:=fun(wx:XP)=>Dw wx;go_wp2_with fail;refine(vV x c l H g _ (by exact M.kept (d6 (aa.refl [a.heap.size,a.heap.size+1] F) (P0 (by simp)) _ _ _ _ _ _) j bl a7.out) aq).mono ?_;rintro e X ⟨I,rfl,ai,ap,i⟩;obtain⟨ao,n9,bg,R⟩:=fw I (f9 l).length;rw[R];have V:=i.get (sG y _ _ _ _ _ _) (by simp);have U:=i.get ((d6 (aa.refl [a.heap.size+1] F) (P0 (by simp)) _ _ _ _ _ _).get u (by simp)) (by simp);have K9:aa [x] a X:=(d6 O (P7 (by omega)) _ _ _ _ _ _).trans (i.mono (by simp));have be:XN (aR X b x T o):=(A.out.kept (d6 (aa.refl [a.heap.size,a.heap.size+1] F) (P0 (by simp)) _ _ _ _ _ _) C z.out).Ur i;have bd:XN (br X x c):=(M.anyR.kept (d6 (aa.refl [a.heap.size,a.heap.size+1] F) (P0 (by simp)) _ _ _ _ _ _) j).kept i (by simp);have a8:XN (dq X I (f9 l)):=ai;have ac:XN (∀g,I=XK g->a.heap.size+2<=g):=fun g N=>by have:=ap g N;simp at this;omega
    have bc:XN _:=R;clear Y Z y2 y3 y4 y5 z0 z1 z2 z3 z4 z5 f0 f1 c0 c1 u y O i ai ap R M;obtain⟨Y,Z,y2,y3,y4,y5⟩:=bG U;obtain⟨z0,z1,z2,z3,z4,z5⟩:=bG V;have f0:=aw U;have f1:=aw V;have b6:=ae V;have bs:=ae U;go_wp2_with fail;go_region
    all_goals go_wp2
    all_goals
      refine Qg (v:=eG (Xz ao n9 bg) 0 ⟨#[]⟩ 0 0 0) (by simp[results,results29,go_sem,eG,Y,Z,y2,y3,y4,y5]) rfl ?_;have Q:((aJ t).1.1==0)=XL:=by rw[HR.out];exact hr
      refine JM Q (ob:=I) (by rw[ER.out];exact bc.out) ?_ (fun g N=>by have:=ac.out g N;omega) ?_ ?_ ?_
      · rw[ER.out];exact dq.kept a8.out (S:=[a.heap.size,a.heap.size+1]) (fj (p:=a.heap.size) (q:=a.heap.size+1) (aa.refl _ _) (P0 (by simp)) (P0 (by simp)) _ _ _ _ _ _ _) (fun g N=>by have:=ac.out g N;simp;omega)
      · exact be.out.kept (S:=[a.heap.size,a.heap.size+1]) (fj (p:=a.heap.size) (q:=a.heap.size+1) (aa.refl _ _) (P0 (by simp)) (P0 (by simp)) _ _ _ _ _ _ _) C z.out
      · exact⟨c,bd.out.kept (S:=[a.heap.size,a.heap.size+1]) (fj (p:=a.heap.size) (q:=a.heap.size+1) (aa.refl _ _) (P0 (by simp)) (P0 (by simp)) _ _ _ _ _ _ _) j,L⟩
      · exact fj (p:=a.heap.size) (q:=a.heap.size+1) K9 (P7 (PQ _)) (P7 (by omega)) _ _ _ _ _ _ _
theorem dV.good(h:dV y):GV (aJ y).2.UD:=iB y h.size h.inc
theorem dV.rws(h:dV y):yb (bu y):=h.good.rows
theorem dV.zero(h:dV y):((aJ y).1.1==0)=XL:=by rw[h.ok];rfl
def rV(N b x:Nat)(T:ByteArray)(o:Option Nat)(w:XP)(e:Ending)(w':XP):Prop :=
 e=XH (XC XL)/\aR w' b x T o/\(∃fs',br w' x fs'/\or N fs')/\aa [x] w w'
theorem Ha{N:Nat}(Y:N<=3)(b x:Nat)(T:ByteArray)(o:Option Nat)(G:Fs)(w:XP)(K:aR w b x T o)(Z:br w x G)(hx:x≠b)(X:or N G)(s:dV T) :
  XO prog 31 #[XA (XK ⟨b,0,XJ⟩)] w fun e t=>rV N b x T o w e t:=by
 obtain⟨R,S,-⟩:=K.cells;have ad:=K.lt;have B:=Gp Y b x T T o G w K Z hx (by have:=s.size;omega) X s.inc;unfold mr at B;have v:XN _:=B;have p:=s.zero;have n:=s.rws;clear B;go_enter func31,ntmps31;go_wp2_with fail;refine PU v.out ?_;rintro e r ⟨Q,rfl,g,ag,a,⟨H,J,I⟩,L⟩;have g:=g p;unfold Aj;rw[PZ p];have C:=fun(t:XP) (k:aa [] r t)=>pE Q o (bu T) t (g.Ur k) (a.rows.Ur k) n;have m:=a.lt;obtain⟨U,V,F⟩:=a.cells;obtain⟨j,P,l,c⟩:=fw Q (bu T).length;obtain⟨D,n2,E,d⟩:=fw o (bu T).length;rw[c,d]at C;rw[d]at F;rw[c];have y:XN _:=C;clear C c d n g R S;simp only[eG];go_upto_region 2 with fail
 obtain⟨f,i⟩:∃f,f=r.alloc (XE #[Xz j P l,Xx XF 0,Xy ⟨#[]⟩,Xx XF 0,Xx XF 0,Xx XF 0] 87):=⟨_,rfl⟩
 have q:aa [] r f:=by rw[i];exact(aa.refl [] _).alloc _
 have u:f.heap[r.heap.size]?=XK (XE #[Xz j P l,Xx XF 0,Xy ⟨#[]⟩,Xx XF 0,Xx XF 0,Xx XF 0] 87):=by rw[i];exact PM _ _
 rw[<-i];have s0:=(bG u).1;have W:XI f ⟨b,2,XJ⟩=XK (Xz D n2 E):=by
  have:=(a.Ur q).cells.2.2;rw[Qy (q.block b m (by simp))];exact F
 have ac:b<f.heap.size:=PY m q.size;clear i U V F;go_region_with (go_at_call 63;refine(y.out _ (by exact q.trans (aa.refl [] f).drew)).mono ?_;rintro e w4 ⟨rfl,O⟩)
 all_goals
  have A:aa [] r w4:=(q.trans (aa.refl [] f).drew).trans O;have M:=O.get ((aa.refl [] f).drew.get u (by simp)) (by simp);obtain⟨-,-,-,-,-,s5⟩:=bG M;have z:XN _:=a.Ur A;have ah:=ae M;clear s0 W u;go_wp2;go_ret;exact⟨rfl,z.out,⟨H,J.kept A (by simp),I⟩,L.trans (A.mono (by simp))⟩
theorem qD:aa [l] L ((L.setCell ⟨l,1,XJ⟩ t).setCell ⟨l,2,XJ⟩ z6) :=
 ((aa.refl [l] L).setCell (P0 (by simp)) _).setCell (P0 (by simp)) _
theorem aR.text(h:aR b w H y k)(U:ByteArray)(c:Option Nat)(d:dq b c (bu U))(a:∀g,c=XK g->g≠w/\g≠H) :
  aR ((b.setCell ⟨w,1,XJ⟩ (Xy U)).setCell ⟨w,2,XJ⟩ (eV c (bu U).length)) w H U c:=by
 refine⟨?_,d.kept (qD b w _ _) (fun g e=>by have:=(a g e).1;simpa using this),a⟩;rw[af (af h.blk 1 (Xy U)) 2 (eV c (bu U).length)];simp[uf]
end Go.Proofs.YtnbalopedcgpcaaGreat
