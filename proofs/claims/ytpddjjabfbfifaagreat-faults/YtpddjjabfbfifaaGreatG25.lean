import Derived.Test.YtpddjjabfbfifaaGreatG24
namespace Go.Proofs.YtpddjjabfbfifaaGreat
open Go.RowKit
set_option maxHeartbeats 40000000
set_option maxRecDepth 100000 in
theorem mR(b o g:Nat)(l:List St)(H:Nat->Hd)(w:World)(h:jy w b o l H g (id l 0))(ok:jH l)(okp:∀i (hi:i<l.length),vX l[i])(hb:b≠g)(hg:∀x,fk H x->x≠g) :
  Calls Tryz.prog 81 #[.pointer (some ⟨b,o,none⟩)] w fun e w'=>e=.returned (.tuple #[])/\jy w' b o l H g (jx l l.length)/\ab [g] w w':=by
 have hbw:=h.recd.lt;have hgw:=ae h.arr;have hlen:=ok.len;go_enter Tryz.func81,Tryz.ntmps81;go_wp2_with (go_at_call 113;refine(qw b o l H _ (by exact h.recd) ok).mono ?_;rintro e w1 ⟨gh,K,rfl,A1,hgh,hKn,k1⟩)
 go_loopg [3] l.length (fun gk iv wr=>∃(k:Nat),k<=l.length/\gk=l.length-k/\iv=.int .i64 k/\jy wr b o l H g (id l k)/\fJ wr gh l l.length K/\ab [g] w wr)
 case atStart=>exact⟨0,by omega,by omega,rfl,h.still k1,A1,k1.wide⟩
 case round =>
  obtain⟨k,hk,hg',rfl,hR,hA,hK⟩:=hrel;have HPL:=(show Hid _ from pH l k hk);have c2:=hR.at2;rw[HPL.out]at c2
  by_cases hlt:k<l.length
  ·have HON:Hid (xB l k (jx l k)=if(l[k].kind==4)=true then⟨l[k].label,1,0,jD⟩ else if(l[k].kind==5)=true then go l k l[k] (id l k) else nZ):=by
    show _=_
    unfold xB;rw[List.getElem?_eq_getElem hlt,Am]
   have HNX:=(show Hid _ from EP l k hlt)
   go_upto_region 5 with (go_at_call 97;refine(bb b o k l H _ (by exact hR.recd) hlt).mono ?_;rintro e w3 ⟨rfl,k3⟩;unfold eG)
   obtain⟨X,hX⟩:∃X,X=w3.alloc (.cells #[.int .i64 l[k].kind,.string l[k].label,.slice (H (10+2*k)).ao l[k].symbols.length (H (10+2*k)).cap,.slice (H (11+2*k)).ao l[k].proof.length (H (11+2*k)).cap,.string l[k].fin.file,.int .i64 l[k].fin.line,.int .i64 l[k].fin.col,.int .i64 l[k].til] 158):=⟨_,rfl⟩
   have kX:ab [] wr X:=by rw[hX];exact k3.alloc _
   have BX:X.heap[w3.heap.size]?=some (.cells #[.int .i64 l[k].kind,.string l[k].label,.slice (H (10+2*k)).ao l[k].symbols.length (H (10+2*k)).cap,.slice (H (11+2*k)).ao l[k].proof.length (H (11+2*k)).cap,.string l[k].fin.file,.int .i64 l[k].fin.line,.int .i64 l[k].fin.col,.int .i64 l[k].til] 158 (0,0)):=by rw[hX];exact heap_alloc_new _ _
   rw[<-hX];clear hX;have m0:X.cell? ⟨w3.heap.size,0,none⟩=some (.int .i64 l[k].kind):=by rw[aa BX];rfl
   have m1:X.cell? ⟨w3.heap.size,1,none⟩=some (.string l[k].label):=by rw[aa BX];rfl
   have RX:=hR.still kX;have AX:=hA.still kX;have KX:=hK.trans kX.wide;have hgX:=ae RX.arr;have hbX:=RX.recd.lt;have hs3:wr.heap.size<=w3.heap.size:=k3.size;have hgwr:=ae hR.arr;have hbwr:=hR.recd.lt;have hgh2:gh≠g:=by omega
   have hKn2:∀n x,(K n).blk=some x->x∉[g]:=fun n x hx=>by have:=hKn n x hx;simp;omega
   have c2X:=RX.at2;rw[HPL.out]at c2X;have hkp:k<(id l k).length:=by rw[HPL.out];exact hlt
   obtain⟨g0,g1,g2,g3,g4,g5⟩:=RX.row k hkp;have yg:=ak RX.arr;have hki:(k:Int)<l.length:=by omega
   have hne1:w3.heap.size≠g:=by omega
   have hne2:g≠w3.heap.size:=by omega
   have hne3:g≠b:=fun e=>hb e.symm
   clear c2;generalize (id l k)[k]=old at *
   cases h4:(l[k].kind==4)
   ·cases h5:(l[k].kind==5)
    ·have HE:Hid (id l (k+1)=id l k):=by
      show _=_
      rw[HNX.out,HON.out,h4,h5];simp only[Bool.false_eq_true,if_false];exact Ij l k hlt
     clear HON HNX;go_wp2
     go_roundg (l.length-(k+1))
     case measure=>omega
     case rel=>exact⟨k+1,by omega,rfl,by go_num,by rw[HE.out];exact RX,AX,KX⟩
    ·have HE:Hid (id l (k+1)=(id l k).set k (go l k l[k] (id l k))):=by show _=_;rw[HNX.out,HON.out,h4,h5];rfl
     have JA:=fun(w':World) (q:ab [] X w')=>Ev b o k g gh l H K (id l k) w' (RX.still q) ok hlt (okp k hlt) (AX.still q)
     have HJA:=(show Hid _ from JA)
     have HCX:Hid (∀w',ab [] X w'->w'.cell? ⟨b,o+2,none⟩=some (.slice (some ⟨g,0,none⟩) l.length l.length)):=by
      intro w' q;have:=(RX.still q).at2;rw[HPL.out]at this;exact this
     have HRW:Hid (∀w',ab [] X w'->w'.cell? ⟨g,k*6,none⟩=some (.string old.label)/\w'.cell? ⟨g,k*6+1,none⟩=some (.int .i64 old.verdict)/\w'.cell? ⟨g,k*6+2,none⟩=some (.int .i64 old.why)/\w'.cell? ⟨g,k*6+3,none⟩=some (.string old.at_.file)/\w'.cell? ⟨g,k*6+4,none⟩=some (.int .i64 old.at_.line)/\w'.cell? ⟨g,k*6+5,none⟩=some (.int .i64 old.at_.col)/\∀n,w'.frozen? ⟨g,n,none⟩=false):=by
      intro w' q;have q2:=q.get RX.arr (by simp);refine⟨?_,?_,?_,?_,?_,?_,fun n=>ak q2 n⟩
      ·rw[aa q2,<-aa RX.arr];exact g0
      ·rw[aa q2,<-aa RX.arr];exact g1
      ·rw[aa q2,<-aa RX.arr];exact g2
      ·rw[aa q2,<-aa RX.arr];exact g3
      ·rw[aa q2,<-aa RX.arr];exact g4
      ·rw[aa q2,<-aa RX.arr];exact g5
     unfold lu at HJA;clear HON HNX JA g0 g1 g2 g3 g4 g5 yg;generalize go l k l[k] (id l k)=r at *
     go_upto_region 8 with fail
     go_region_held3 (fun w'=>w'.cell? ⟨b,o+2,none⟩=some (.slice (some ⟨g,0,none⟩) l.length l.length)) (go_keep) (first | (go_at_call 114;refine(HJA.out _ (by exact(ab.refl [] X).drew)).mono ?_;rintro e w5 ⟨rfl,k5⟩;have x0:=HCX.out w5 ((ab.refl [] X).drew.trans k5);obtain⟨g0,g1,g2,g3,g4,g5,yg⟩:=HRW.out w5 ((ab.refl [] X).drew.trans k5)))
     all_goals
      have kk:=((ab.refl [] X).drew.trans k5);have ST:=(RX.still kk).store hb hg k hkp r;have SK:=pd w5 g k r;have AK:=(AX.still kk).kept SK (by simpa using hgh2) hKn2;have KK:=(KX.trans kk.wide).trans SK;rw[<-HE.out]at ST;unfold xW at ST SK AK KK;clear m0 m1 c2X g0 g1 g2 g3 g4 g5 yg x0;go_wp2
      go_roundg (l.length-(k+1))
      case measure=>omega
      case rel=>exact⟨k+1,by omega,rfl,by go_num,ST,AK,KK⟩
   ·have h5:(l[k].kind==5)=false:=by have:=eq_of_beq h4;rw[this];rfl
    have HE:Hid (id l (k+1)=(id l k).set k ⟨l[k].label,1,0,jD⟩):=by show _=_;rw[HNX.out,HON.out,h4];rfl
    clear HON HNX
    go_upto_region 6 with fail
    go_region
    all_goals
     have ST:=RX.store hb hg k hkp ⟨l[k].label,1,0,jD⟩;have SK:=pd X g k ⟨l[k].label,1,0,jD⟩;have AK:=AX.kept SK (by simpa using hgh2) hKn2;have KK:=KX.trans SK;rw[<-HE.out]at ST;unfold xW at ST SK AK KK;simp only[jD]at ST AK KK;clear m1 c2X g0 g1 g2 g3 g4 g5 yg SK;go_wp2
     go_roundg (l.length-(k+1))
     case measure=>omega
     case rel=>exact⟨k+1,by omega,rfl,by go_num,ST.still (ab.refl [] _).drew,AK.still (ab.refl [] _).drew,KK.drew⟩
  ·have e:k=l.length:=by omega
   subst e;rw[Gz]at hR;go_wp2;go_end0;exact⟨rfl,hR,hK⟩
theorem Eu(n:Nat):madeCells (Value.agg #[.string ⟨#[]⟩,.int .i64 0,.int .i64 0,.string ⟨#[]⟩,.int .i64 0,.int .i64 0]).cells (n*6)=(jt (List.replicate n nZ)).toArray:=by
  have hc:(Value.agg #[.string ⟨#[]⟩,.int .i64 0,.int .i64 0,.string ⟨#[]⟩,.int .i64 0,.int .i64 0]).cells=(lu nZ).toArray:=by rfl
  rw[hc]
  apply Array.ext
  · rw[size_madeCells];simp[yj]
  · intro i h1 h2
    rw[size_madeCells]at h1;have hk:i / 6<(List.replicate n nZ).length:=by simp;omega
    have e:=Cl (List.replicate n nZ) (i / 6) hk (i % 6) (by omega);have ei:i / 6*6+i % 6=i:=by omega
    have e2:(List.replicate n nZ)[i / 6]=nZ:=by simp
    rw[ei,e2]at e;have h3:i<(jt (List.replicate n nZ)).length:=by simpa using h2
    have e3:(jt (List.replicate n nZ)).toArray[i]=(jt (List.replicate n nZ))[i]:=by simp
    rw[e3];have e4:some (jt (List.replicate n nZ))[i]=(lu nZ)[i % 6]?:=by rw[<-e,List.getElem?_eq_getElem h3]
    have l:some (madeCells (lu nZ).toArray (n*6))[i]=(lu nZ)[i % 6]?:=by
      have hj:i % 6=0∨i % 6=1∨i % 6=2∨i % 6=3∨i % 6=4∨i % 6=5:=by omega
      have hs:(lu nZ).toArray.size=6:=rfl;simp only[madeCells,Array.getElem_map,Array.getElem_range,hs]
      rcases hj with h | h | h | h | h | h <;> rw[h] <;> rfl
    exact Option.some.inj (l.trans e4.symm)
theorem Ft(l:List St):id l 0=List.replicate l.length nZ:=by simp[id,jx]
theorem lK{w w2:World}{A B:Nat}(h:ab [] w w2)(hA:w.heap.size<=A)(hB:w.heap.size<=B)(u0 u1 u2 v0 v1 v2 v3:Value) :
    ab [] w (((((((w2.setCell ⟨A,0,none⟩ u0).setCell ⟨A,1,none⟩ u1).setCell ⟨A,2,none⟩ u2).setCell ⟨B,0,none⟩ v0).setCell ⟨B,1,none⟩ v1).setCell ⟨B,2,none⟩ v2).setCell ⟨B,3,none⟩ v3) :=
  ((((((h.setCell (Or.inr hA) _).setCell (Or.inr hA) _).setCell (Or.inr hA) _).setCell (Or.inr hB) _).setCell (Or.inr hB) _).setCell (Or.inr hB) _).setCell (Or.inr hB) _
theorem mv(w2:World)(A B:Nat)(u0 u1 u2 v0 v1 v2 v3:Value) :
    ab [A,B] w2 (((((((w2.setCell ⟨A,0,none⟩ u0).setCell ⟨A,1,none⟩ u1).setCell ⟨A,2,none⟩ u2).setCell ⟨B,0,none⟩ v0).setCell ⟨B,1,none⟩ v1).setCell ⟨B,2,none⟩ v2).setCell ⟨B,3,none⟩ v3) :=
  (((((((ab.refl [A,B] w2).setCell (Or.inl (by simp)) _).setCell (Or.inl (by simp)) _).setCell (Or.inl (by simp)) _).setCell (Or.inl (by simp)) _).setCell (Or.inl (by simp)) _).setCell (Or.inl (by simp)) _).setCell (Or.inl (by simp)) _
def Cc(fs:Fs)(k0:Nat)(w:World)(e:Ending)(w':World):Prop :=
  (if((cN fs k0).1.1==0)=true then ∃(H:Nat->Hd) (g:Nat) (a7:Option Addr) (n7 c7:Nat),
      e=.returned (.tuple #[.agg #[.slice (H 6).ao (cN fs k0).2.2.sts.length (H 6).cap,.slice a7 n7 c7,.slice (some ⟨g,0,none⟩) (cN fs k0).2.2.sts.length (cN fs k0).2.2.sts.length],gx cI]) /\
      hQ w' (cN fs k0).2.2.sts H/\w'.heap[g]?=some (.cells (jt (jx (cN fs k0).2.2.sts (cN fs k0).2.2.sts.length)).toArray 38 (0,0))/\(∀k,fk H k->w.heap.size<=k)/\w.heap.size<=g
   else e=.returned (.tuple #[.agg #[.slice none 0 0,.slice none 0 0,.slice none 0 0],gx (cN fs k0).1]))/\ab [] w w'
set_option maxRecDepth 100000 in
theorem KD(v tt k0:Nat)(fs:Fs)(more:List Value)(w:World)
    (ht:bm w v tt fs more) (hk0:k0<fs.length) (hsz:∀j,j<fs.length->(aj fs j).size<=1024) :
    Calls Tryz.prog 53 #[.pointer (some ⟨v,0,none⟩),.int .i64 k0] w fun e w'=>Cc fs k0 w e w':=by
  have hvw:=ht.lt;obtain⟨i0,hi,hz0,hz1,hz2⟩:=info_parts LB;have HG:=(show Hid _ from G3 fs hsz k0);obtain⟨W,hW⟩:∃W,W=(w.alloc (.cells #[.slice none 0 0,.slice none 0 0,.slice none 0 0] 78)).alloc (.cells #[.int .i64 0,.string ⟨#[]⟩,.int .i64 0,.int .i64 0] 87):=⟨_,rfl⟩
  have hK:ab [] w W:=by rw[hW];exact((ab.refl [] _).alloc _).alloc _
  have hA:W.heap[w.heap.size]?=some (.cells #[.slice none 0 0,.slice none 0 0,.slice none 0 0] 78 (0,0)):=by
    rw[hW];exact((ab.refl [] _).alloc _).get (heap_alloc_new _ _) (by simp)
  have hF:W.heap[w.heap.size+1]?=some (.cells aZ 87 (0,0)):=by
    rw[hW];have e:(w.alloc (.cells #[.slice none 0 0,.slice none 0 0,.slice none 0 0] 78)).heap.size=w.heap.size+1:=by simp
    rw[<-e];exact heap_alloc_new _ _
  have HW:=(show Hid _ from hW.symm);have RD:=FH v tt k0 fs more W (ht.kept hK (by simp)) hk0 hsz;have HRD:=(show Hid _ from RD);clear RD hW;unfold Cc;generalize cN fs k0=R at *;obtain⟨⟨r,pf,pl,pc⟩,bg',d'⟩:=R;simp only[gx,cI]at HRD HG ⊢;generalize d'.sts=l at *;generalize d'.rbl=rb at *;go_enter Tryz.func53,Tryz.ntmps53;go_wp2_with fail;rw[HW.out];refine Calls.mono HRD.out ?_;rintro e w2 ⟨hcase,hk2⟩;have hA2:=hk2.get hA (by simp);have hF2:=hk2.get hF (by simp);have hz:=hk2.size;have hWz:=ae hF
  cases hr:(r==0)
  · have hr':(r != 0)=true:=by simp[bne,hr]
    simp only[hr,Bool.false_eq_true,if_false]at hcase ⊢;subst hcase;have a0:w2.cell? ⟨w.heap.size,0,none⟩=some (.slice none 0 0):=by rw[aa hA2];rfl
    have a1:w2.cell? ⟨w.heap.size,1,none⟩=some (.slice none 0 0):=by rw[aa hA2];rfl
    have a2:w2.cell? ⟨w.heap.size,2,none⟩=some (.slice none 0 0):=by rw[aa hA2];rfl
    obtain⟨z0,z1,z2,z3⟩:=bR hF2;have ya:=ak hA2;have yf:=ak hF2;have hA2w:=ae hA2;have hF2w:=ae hF2;go_wp2_with fail
    go_region
    all_goals go_wp2
    all_goals exact bodyPost_ret (v:=.tuple #[.agg #[.slice none 0 0,.slice none 0 0,.slice none 0 0],.agg #[.int .i64 r,.string pf,.int .i64 pl,.int .i64 pc]]) (by simp[results,Tryz.results53,go_sem,a0,a1,a2,z0,z1,z2,z3,hA2w,hF2w]) rfl ⟨rfl,(((lK (hK.trans hk2) (Nat.le_refl _) (Nat.le_succ _) _ _ _ _ _ _ _).alloc _).alloc _).drew⟩
  · have hr':(r != 0)=false:=by simp[bne,hr]
    simp only[hr,if_true]at hcase ⊢;obtain⟨H0,rfl,hS0,hN0⟩:=hcase;obtain⟨hS,hT⟩:=hS0.trim;have hE6:H0 6=rN l H0 6:=(mn l H0 6 (Or.inl rfl)).symm;rw[hE6];have hN:∀k,fk (rN l H0) k->k<w2.heap.size/\w.heap.size+2<=k:=fun k hk=>⟨(hT k hk).1,by have:=hN0 k (hT k hk).2;omega⟩
    clear hS0 hN0 hT hE6;generalize rN l H0=H at *;generalize (H0 7).ao=a7 at *;generalize (H0 7).cap=c7 at *;generalize rb.length=n7 at *;clear H0;have HN:=(show Hid _ from hN);have hlen:=HG.out.ok.len;obtain⟨W3,hW3⟩:∃W3,W3=(w2.alloc (.cells #[.slice (H 6).ao l.length (H 6).cap,.slice a7 n7 c7] 76)).alloc (.cells #[.int .i64 0,.string ⟨#[]⟩,.int .i64 0,.int .i64 0] 87):=⟨_,rfl⟩
    have k3:ab [] w2 W3:=by rw[hW3];exact((ab.refl [] _).alloc _).alloc _
    have B3:W3.heap[w2.heap.size]?=some (.cells #[.slice (H 6).ao l.length (H 6).cap,.slice a7 n7 c7] 76 (0,0)):=by
      rw[hW3];exact((ab.refl [] _).alloc _).get (heap_alloc_new _ _) (by simp)
    have hs3:W3.heap.size=w2.heap.size+2:=by rw[hW3];simp
    have hS3:=hS.still k3;have R3:ev W3 w2.heap.size 0 l H:=⟨⟨_,_,B3,rfl⟩,hS3⟩;have r0:W3.cell? ⟨w2.heap.size,0,none⟩=some (.slice (H 6).ao l.length (H 6).cap):=by rw[aa B3];rfl
    have r1:W3.cell? ⟨w2.heap.size,1,none⟩=some (.slice a7 n7 c7):=by rw[aa B3];rfl
    have HCA:Hid (∀w',ab [] W3 w'->Calls Tryz.prog 80 #[.pointer (some ⟨w2.heap.size,0,none⟩)] w' fun e w''=>e=.returned (.int .i64 l.length)/\w''=w'):=fun w' q=>dQ w2.heap.size 0 l H w' (R3.still q)
    have HRR:Hid (∀w',ab [] W3 w'->w'.cell? ⟨w2.heap.size,0,none⟩=some (.slice (H 6).ao l.length (H 6).cap)/\w'.cell? ⟨w2.heap.size,1,none⟩=some (.slice a7 n7 c7)):=fun w' q=>by
      have q2:=q.get B3 (by simp);exact⟨by rw[aa q2];rfl,by rw[aa q2];rfl⟩
    have m1:=fun w=>dn (P:=Tryz.prog) w 54 38 i0 _ Tryz.underlying54 hi hz0 l.length 6 hz1 (by rw[hz2];omega) (by omega)
    obtain⟨mc,hmc⟩:∃mc,mc=madeCells (Value.agg #[.string ⟨#[]⟩,.int .i64 0,.int .i64 0,.string ⟨#[]⟩,.int .i64 0,.int .i64 0]).cells (l.length*6):=⟨_,rfl⟩
    have HMC:Hid (mc=(jt (id l 0)).toArray):=by show _=_;rw[hmc,Eu,Ft]
    rw[<-hmc]at m1;clear hmc hN hS;have HW3:=(show Hid _ from hW3.symm);clear hW3
    go_upto_region 4 with fail
    rw[HW3.out]
    go_region_held3 (fun w'=>w'.cell? ⟨w2.heap.size,0,none⟩=some (.slice (H 6).ao l.length (H 6).cap)/\w'.cell? ⟨w2.heap.size,1,none⟩=some (.slice a7 n7 c7)) (go_keep) (first | (go_at_call 80;refine(HCA.out _ (by first | exact(ab.refl [] W3).drew | exact((ab.refl [] W3).alloc _).drew | exact(ab.refl [] W3).drew.alloc _)).mono ?_;rintro e wc ⟨rfl,hwc⟩;rw[hwc]))
    · obtain⟨W4,hW4⟩:∃W4,W4=((W3.alloc (.cells mc 38)).alloc (.cells #[.slice (H 6).ao l.length (H 6).cap,.slice a7 n7 c7,.slice (some ⟨w2.heap.size+2,0,none⟩) l.length l.length] 78)).drew:=⟨_,rfl⟩
      have k4:ab [] W3 W4:=by rw[hW4];exact(((ab.refl [] _).alloc _).alloc _).drew
      have B4:W4.heap[w2.heap.size+2+1]?=some (.cells #[.slice (H 6).ao l.length (H 6).cap,.slice a7 n7 c7,.slice (some ⟨w2.heap.size+2,0,none⟩) l.length l.length] 78 (0,0)):=by
        rw[hW4];have e1:(W3.alloc (.cells mc 38)).heap.size=w2.heap.size+2+1:=by simp[hs3]
        have e:=heap_alloc_new (W3.alloc (.cells mc 38)) (.cells #[.slice (H 6).ao l.length (H 6).cap,.slice a7 n7 c7,.slice (some ⟨w2.heap.size+2,0,none⟩) l.length l.length] 78);rw[e1]at e;exact(ab.refl [] _).drew.get e (by simp)
      have G4:W4.heap[w2.heap.size+2]?=some (.cells (jt (id l 0)).toArray 38 (0,0)):=by
        rw[hW4,<-HMC.out];have e:=((ab.refl [] (W3.alloc (.cells mc 38))).alloc (.cells #[.slice (H 6).ao l.length (H 6).cap,.slice a7 n7 c7,.slice (some ⟨w2.heap.size+2,0,none⟩) l.length l.length] 78)).drew.get (heap_alloc_new _ _) (by simp);rw[hs3]at e;exact e
      rw[<-hW4];clear hW4;have RP:jy W4 (w2.heap.size+2+1) 0 l H (w2.heap.size+2) (id l 0):=⟨⟨⟨_,_,B4,rfl⟩,hS3.still k4⟩,⟨_,_,B4,by rw[pH l 0 (Nat.zero_le _)];rfl⟩,G4⟩;have HJ:=(show Hid _ from mR (w2.heap.size+2+1) 0 (w2.heap.size+2) l H W4 RP HG.out.ok HG.out.prf (by omega) (fun x hx=>by have:=HN.out x hx;omega));have kA:=(hk2.trans k3).trans k4;have A4:=kA.get hA (by simp);have F4:=kA.get hF (by simp);clear RP hwc;go_wp2_with fail;refine Calls.mono HJ.out ?_;rintro e w5 ⟨rfl,R5,k5⟩;have B5:=k5.get B4 (by simp);have A5:=k5.get A4 (by simp;omega);have F5:=k5.get F4 (by simp;omega);have b0:w5.cell? ⟨w2.heap.size+2+1,0,none⟩=some (.slice (H 6).ao l.length (H 6).cap):=by rw[aa B5];rfl
      have b1:w5.cell? ⟨w2.heap.size+2+1,1,none⟩=some (.slice a7 n7 c7):=by rw[aa B5];rfl
      have b2:w5.cell? ⟨w2.heap.size+2+1,2,none⟩=some (.slice (some ⟨w2.heap.size+2,0,none⟩) l.length l.length):=by rw[aa B5];rfl
      have a0:w5.cell? ⟨w.heap.size,0,none⟩=some (.slice none 0 0):=by rw[aa A5];rfl
      have a1:w5.cell? ⟨w.heap.size,1,none⟩=some (.slice none 0 0):=by rw[aa A5];rfl
      have a2:w5.cell? ⟨w.heap.size,2,none⟩=some (.slice none 0 0):=by rw[aa A5];rfl
      obtain⟨z0,z1,z2,z3⟩:=bR F5;have ya:=ak A5;have yf:=ak F5;have hA2w:=ae A5;have hF2w:=ae F5
      have KW:ab [] w w5:=by
        have q:=(hK.trans kA);exact⟨k5.os.trans q.os,k5.tape.trans q.tape,k5.output.trans q.output,Nat.le_trans q.size k5.size,fun k hk _=>(k5.block k (Nat.lt_of_lt_of_le hk q.size) (by simp;omega)).trans (q.block k hk (by simp))⟩
      have KS:=mv w5 w.heap.size (w.heap.size+1);have HS5:Hid (hQ w5 l H):=R5.recd.sts;have HG5:=(show Hid _ from R5.arr);have HKS:=(show Hid _ from KS);clear R5 KS B5 A5 F5 B4 A4 F4 G4;go_wp2
      exact bodyPost_ret (v:=.tuple #[.agg #[.slice (H 6).ao l.length (H 6).cap,.slice a7 n7 c7,.slice (some ⟨w2.heap.size+2,0,none⟩) l.length l.length],.agg #[.int .i64 0,.string ⟨#[]⟩,.int .i64 0,.int .i64 0]]) (by simp[results,Tryz.results53,go_sem,a0,a1,a2,z0,z1,z2,z3]) rfl
        ⟨⟨H,w2.heap.size+2,⟨a7,n7,c7,rfl⟩,HS5.out.kept (HKS.out _ _ _ _ _ _ _) (fun k hk=>by have:=HN.out k hk;simp;omega),(HKS.out _ _ _ _ _ _ _).get HG5.out (by simp;omega),fun k hk=>by have:=HN.out k hk;omega,by omega⟩,lK KW (Nat.le_refl _) (Nat.le_succ _) _ _ _ _ _ _ _⟩
    · obtain⟨W4,hW4⟩:∃W4,W4=((W3.alloc (.cells #[.slice (H 6).ao l.length (H 6).cap,.slice a7 n7 c7,.slice (some ⟨w2.heap.size+2+1,0,none⟩) l.length l.length] 78)).alloc (.cells mc 38)).drew:=⟨_,rfl⟩
      have k4:ab [] W3 W4:=by rw[hW4];exact(((ab.refl [] _).alloc _).alloc _).drew
      have B4:W4.heap[w2.heap.size+2]?=some (.cells #[.slice (H 6).ao l.length (H 6).cap,.slice a7 n7 c7,.slice (some ⟨w2.heap.size+2+1,0,none⟩) l.length l.length] 78 (0,0)):=by
        rw[hW4];have e:=((ab.refl [] (W3.alloc (.cells #[.slice (H 6).ao l.length (H 6).cap,.slice a7 n7 c7,.slice (some ⟨w2.heap.size+2+1,0,none⟩) l.length l.length] 78))).alloc (.cells mc 38)).drew.get (heap_alloc_new _ _) (by simp);rw[hs3]at e;exact e
      have G4:W4.heap[w2.heap.size+2+1]?=some (.cells (jt (id l 0)).toArray 38 (0,0)):=by
        rw[hW4,<-HMC.out];have e1:(W3.alloc (.cells #[.slice (H 6).ao l.length (H 6).cap,.slice a7 n7 c7,.slice (some ⟨w2.heap.size+2+1,0,none⟩) l.length l.length] 78)).heap.size=w2.heap.size+2+1:=by simp[hs3]
        have e:=heap_alloc_new (W3.alloc (.cells #[.slice (H 6).ao l.length (H 6).cap,.slice a7 n7 c7,.slice (some ⟨w2.heap.size+2+1,0,none⟩) l.length l.length] 78)) (.cells mc 38);rw[e1]at e;exact(ab.refl [] _).drew.get e (by simp)
      rw[<-hW4];clear hW4;have RP:jy W4 (w2.heap.size+2) 0 l H (w2.heap.size+2+1) (id l 0):=⟨⟨⟨_,_,B4,rfl⟩,hS3.still k4⟩,⟨_,_,B4,by rw[pH l 0 (Nat.zero_le _)];rfl⟩,G4⟩;have HJ:=(show Hid _ from mR (w2.heap.size+2) 0 (w2.heap.size+2+1) l H W4 RP HG.out.ok HG.out.prf (by omega) (fun x hx=>by have:=HN.out x hx;omega));have kA:=(hk2.trans k3).trans k4;have A4:=kA.get hA (by simp);have F4:=kA.get hF (by simp);clear RP hwc;go_wp2_with fail;refine Calls.mono HJ.out ?_;rintro e w5 ⟨rfl,R5,k5⟩;have B5:=k5.get B4 (by simp);have A5:=k5.get A4 (by simp;omega);have F5:=k5.get F4 (by simp;omega);have b0:w5.cell? ⟨w2.heap.size+2,0,none⟩=some (.slice (H 6).ao l.length (H 6).cap):=by rw[aa B5];rfl
      have b1:w5.cell? ⟨w2.heap.size+2,1,none⟩=some (.slice a7 n7 c7):=by rw[aa B5];rfl
      have b2:w5.cell? ⟨w2.heap.size+2,2,none⟩=some (.slice (some ⟨w2.heap.size+2+1,0,none⟩) l.length l.length):=by rw[aa B5];rfl
      have a0:w5.cell? ⟨w.heap.size,0,none⟩=some (.slice none 0 0):=by rw[aa A5];rfl
      have a1:w5.cell? ⟨w.heap.size,1,none⟩=some (.slice none 0 0):=by rw[aa A5];rfl
      have a2:w5.cell? ⟨w.heap.size,2,none⟩=some (.slice none 0 0):=by rw[aa A5];rfl
      obtain⟨z0,z1,z2,z3⟩:=bR F5;have ya:=ak A5;have yf:=ak F5;have hA2w:=ae A5;have hF2w:=ae F5
      have KW:ab [] w w5:=by
        have q:=(hK.trans kA);exact⟨k5.os.trans q.os,k5.tape.trans q.tape,k5.output.trans q.output,Nat.le_trans q.size k5.size,fun k hk _=>(k5.block k (Nat.lt_of_lt_of_le hk q.size) (by simp;omega)).trans (q.block k hk (by simp))⟩
      have KS:=mv w5 w.heap.size (w.heap.size+1);have HS5:Hid (hQ w5 l H):=R5.recd.sts;have HG5:=(show Hid _ from R5.arr);have HKS:=(show Hid _ from KS);clear R5 KS B5 A5 F5 B4 A4 F4 G4;go_wp2
      exact bodyPost_ret (v:=.tuple #[.agg #[.slice (H 6).ao l.length (H 6).cap,.slice a7 n7 c7,.slice (some ⟨w2.heap.size+2+1,0,none⟩) l.length l.length],.agg #[.int .i64 0,.string ⟨#[]⟩,.int .i64 0,.int .i64 0]]) (by simp[results,Tryz.results53,go_sem,a0,a1,a2,z0,z1,z2,z3]) rfl
        ⟨⟨H,w2.heap.size+2+1,⟨a7,n7,c7,rfl⟩,HS5.out.kept (HKS.out _ _ _ _ _ _ _) (fun k hk=>by have:=HN.out k hk;simp;omega),(HKS.out _ _ _ _ _ _ _).get HG5.out (by simp;omega),fun k hk=>by have:=HN.out k hk;omega,by omega⟩,lK KW (Nat.le_refl _) (Nat.le_succ _) _ _ _ _ _ _ _⟩
    · obtain⟨W4,hW4⟩:∃W4,W4=((W3.alloc (.cells #[.slice (H 6).ao l.length (H 6).cap,.slice a7 n7 c7,.slice (some ⟨w2.heap.size+2+1,0,none⟩) l.length l.length] 78)).alloc (.cells mc 38)).drew:=⟨_,rfl⟩
      have k4:ab [] W3 W4:=by rw[hW4];exact(((ab.refl [] _).alloc _).alloc _).drew
      have B4:W4.heap[w2.heap.size+2]?=some (.cells #[.slice (H 6).ao l.length (H 6).cap,.slice a7 n7 c7,.slice (some ⟨w2.heap.size+2+1,0,none⟩) l.length l.length] 78 (0,0)):=by
        rw[hW4];have e:=((ab.refl [] (W3.alloc (.cells #[.slice (H 6).ao l.length (H 6).cap,.slice a7 n7 c7,.slice (some ⟨w2.heap.size+2+1,0,none⟩) l.length l.length] 78))).alloc (.cells mc 38)).drew.get (heap_alloc_new _ _) (by simp);rw[hs3]at e;exact e
      have G4:W4.heap[w2.heap.size+2+1]?=some (.cells (jt (id l 0)).toArray 38 (0,0)):=by
        rw[hW4,<-HMC.out];have e1:(W3.alloc (.cells #[.slice (H 6).ao l.length (H 6).cap,.slice a7 n7 c7,.slice (some ⟨w2.heap.size+2+1,0,none⟩) l.length l.length] 78)).heap.size=w2.heap.size+2+1:=by simp[hs3]
        have e:=heap_alloc_new (W3.alloc (.cells #[.slice (H 6).ao l.length (H 6).cap,.slice a7 n7 c7,.slice (some ⟨w2.heap.size+2+1,0,none⟩) l.length l.length] 78)) (.cells mc 38);rw[e1]at e;exact(ab.refl [] _).drew.get e (by simp)
      rw[<-hW4];clear hW4;have RP:jy W4 (w2.heap.size+2) 0 l H (w2.heap.size+2+1) (id l 0):=⟨⟨⟨_,_,B4,rfl⟩,hS3.still k4⟩,⟨_,_,B4,by rw[pH l 0 (Nat.zero_le _)];rfl⟩,G4⟩;have HJ:=(show Hid _ from mR (w2.heap.size+2) 0 (w2.heap.size+2+1) l H W4 RP HG.out.ok HG.out.prf (by omega) (fun x hx=>by have:=HN.out x hx;omega));have kA:=(hk2.trans k3).trans k4;have A4:=kA.get hA (by simp);have F4:=kA.get hF (by simp);clear RP hwc;go_wp2_with fail;refine Calls.mono HJ.out ?_;rintro e w5 ⟨rfl,R5,k5⟩;have B5:=k5.get B4 (by simp);have A5:=k5.get A4 (by simp;omega);have F5:=k5.get F4 (by simp;omega);have b0:w5.cell? ⟨w2.heap.size+2,0,none⟩=some (.slice (H 6).ao l.length (H 6).cap):=by rw[aa B5];rfl
      have b1:w5.cell? ⟨w2.heap.size+2,1,none⟩=some (.slice a7 n7 c7):=by rw[aa B5];rfl
      have b2:w5.cell? ⟨w2.heap.size+2,2,none⟩=some (.slice (some ⟨w2.heap.size+2+1,0,none⟩) l.length l.length):=by rw[aa B5];rfl
      have a0:w5.cell? ⟨w.heap.size,0,none⟩=some (.slice none 0 0):=by rw[aa A5];rfl
      have a1:w5.cell? ⟨w.heap.size,1,none⟩=some (.slice none 0 0):=by rw[aa A5];rfl
      have a2:w5.cell? ⟨w.heap.size,2,none⟩=some (.slice none 0 0):=by rw[aa A5];rfl
      obtain⟨z0,z1,z2,z3⟩:=bR F5;have ya:=ak A5;have yf:=ak F5;have hA2w:=ae A5;have hF2w:=ae F5
      have KW:ab [] w w5:=by
        have q:=(hK.trans kA);exact⟨k5.os.trans q.os,k5.tape.trans q.tape,k5.output.trans q.output,Nat.le_trans q.size k5.size,fun k hk _=>(k5.block k (Nat.lt_of_lt_of_le hk q.size) (by simp;omega)).trans (q.block k hk (by simp))⟩
      have KS:=mv w5 w.heap.size (w.heap.size+1);have HS5:Hid (hQ w5 l H):=R5.recd.sts;have HG5:=(show Hid _ from R5.arr);have HKS:=(show Hid _ from KS);clear R5 KS B5 A5 F5 B4 A4 F4 G4;go_wp2
      exact bodyPost_ret (v:=.tuple #[.agg #[.slice (H 6).ao l.length (H 6).cap,.slice a7 n7 c7,.slice (some ⟨w2.heap.size+2+1,0,none⟩) l.length l.length],.agg #[.int .i64 0,.string ⟨#[]⟩,.int .i64 0,.int .i64 0]]) (by simp[results,Tryz.results53,go_sem,a0,a1,a2,z0,z1,z2,z3]) rfl
        ⟨⟨H,w2.heap.size+2+1,⟨a7,n7,c7,rfl⟩,HS5.out.kept (HKS.out _ _ _ _ _ _ _) (fun k hk=>by have:=HN.out k hk;simp;omega),(HKS.out _ _ _ _ _ _ _).get HG5.out (by simp;omega),fun k hk=>by have:=HN.out k hk;omega,by omega⟩,lK KW (Nat.le_refl _) (Nat.le_succ _) _ _ _ _ _ _ _⟩
structure wt(w:World)(x:Nat)(fs:Fs)(l:List St)(H:Nat->Hd)(g:Nat):Prop where
  ver:∃(a7:Option Addr) (n7 c7:Nat),na w x fs true (.slice (H 6).ao l.length (H 6).cap) (.slice a7 n7 c7) (.slice (some ⟨g,0,none⟩) l.length l.length)
  sts:hQ w l H
  arr:w.heap[g]?=some (.cells (jt (jx l l.length)).toArray 38 (0,0))
  far:x≠g/\∀k,fk H k->k≠x
theorem wt.anyR{w:World}{x:Nat}{fs:Fs}{l:List St}{H:Nat->Hd}{g:Nat}(h:wt w x fs l H g):bW w x fs:=by
  obtain⟨a7,n7,c7,h⟩:=h.ver;exact h.anyR
theorem wt.still{w w':World}{x:Nat}{fs:Fs}{l:List St}{H:Nat->Hd}{g:Nat}(h:wt w x fs l H g)(k:ab [] w w'):wt w' x fs l H g:=by
  obtain⟨a7,n7,c7,hv⟩:=h.ver;exact⟨⟨a7,n7,c7,bm.kept hv k (by simp)⟩,h.sts.still k,k.get h.arr (by simp),h.far⟩
theorem EB{S:List Nat}{w w2:World}{B:Nat}(h:ab S w w2)(hB:w.heap.size<=B)(v0 v1 v2 v3:Value) :
    ab S w ((((w2.setCell ⟨B,0,none⟩ v0).setCell ⟨B,1,none⟩ v1).setCell ⟨B,2,none⟩ v2).setCell ⟨B,3,none⟩ v3) :=
  (((h.setCell (Or.inr hB) _).setCell (Or.inr hB) _).setCell (Or.inr hB) _).setCell (Or.inr hB) _
theorem sS(w2:World)(B:Nat)(v0 v1 v2 v3:Value) :
    ab [B] w2 ((((w2.setCell ⟨B,0,none⟩ v0).setCell ⟨B,1,none⟩ v1).setCell ⟨B,2,none⟩ v2).setCell ⟨B,3,none⟩ v3) :=
  ((((ab.refl [B] w2).setCell (Or.inl (by simp)) _).setCell (Or.inl (by simp)) _).setCell (Or.inl (by simp)) _).setCell (Or.inl (by simp)) _
theorem o8{S:List Nat}{w w2:World}{A B:Nat}(h:ab S w w2)(hA:A∈S∨w.heap.size<=A)(hB:B∈S∨w.heap.size<=B)(u0 u1 u2 u3 v0 v1 v2 v3:Value) :
    ab S w ((((((((w2.setCell ⟨A,9,none⟩ u0).setCell ⟨A,10,none⟩ u1).setCell ⟨A,11,none⟩ u2).setCell ⟨A,12,none⟩ u3).setCell ⟨B,0,none⟩ v0).setCell ⟨B,1,none⟩ v1).setCell ⟨B,2,none⟩ v2).setCell ⟨B,3,none⟩ v3) :=
  (((((((h.setCell hA _).setCell hA _).setCell hA _).setCell hA _).setCell hB _).setCell hB _).setCell hB _).setCell hB _
def CU(fs:Fs)(k0 x:Nat)(w:World)(e:Ending)(w':World):Prop :=
  (if((cN fs k0).1.1==0)=true then e=.returned (.tuple #[gx cI,.int .i64 0])/\∃H g,wt w' x fs (cN fs k0).2.2.sts H g/\w.heap.size<=g/\∀k,fk H k->w.heap.size<=k
   else e=.returned (.tuple #[gx (cN fs k0).1,.int .i64 6])/\lT w' x fs)/\ab [x] w w'
set_option maxRecDepth 100000 in
theorem AT(x k0:Nat)(fs:Fs)(n:ByteArray)(w:World)(h:bW w x fs)(hf:bt fs n=k0)(hk0:k0<fs.length)(hsz:∀j,j<fs.length->(aj fs j).size<=1024) :
    Calls Tryz.prog 36 #[.pointer (some ⟨x,0,none⟩),.string n] w fun e w'=>CU fs k0 x w e w':=by
  have hxw:=h.lt;obtain⟨W,hW⟩:∃W,W=w.alloc (.cells #[.int .i64 0,.string ⟨#[]⟩,.int .i64 0,.int .i64 0] 87):=⟨_,rfl⟩
  have hK:ab [] w W:=by rw[hW];exact(ab.refl [] _).alloc _
  have hF:W.heap[w.heap.size]?=some (.cells aZ 87 (0,0)):=by rw[hW];exact heap_alloc_new _ _
  have hV:=h.kept hK (by simp);have HW:=(show Hid _ from hW.symm)
  have FA:Calls Tryz.prog 50 #[.pointer (some ⟨x,0,none⟩),.string n] W fun e w'=>e=.returned (.int .i64 k0)/\w'=W:=by
    obtain⟨rep,a,b,c,hv⟩:=hV;rw[<-hf];exact ku x _ fs _ n W hv
  have HFA:=(show Hid _ from FA);have DA:=tK x fs W hV;have HDA:=(show Hid _ from DA);clear FA DA hW;have hki:¬((k0:Int)<0):=by omega
  have OA:=fun(w2:World) (hB2:lT w2 x fs)=>KD x _ k0 fs _ w2 hB2 hk0 hsz
  unfold Cc at OA;have HOA:=(show Hid _ from OA);clear OA;unfold CU;generalize cN fs k0=R at *;obtain⟨⟨r,pf,pl,pc⟩,bg',d'⟩:=R;simp only[gx,cI]at HOA ⊢;generalize d'.sts=l at *;go_enter Tryz.func36,Tryz.ntmps36;go_wp2_with fail;rw[HW.out];refine Calls.mono HFA.out ?_;rintro e w9 ⟨rfl,rfl⟩;go_wp2_with fail;refine Calls.mono HDA.out ?_;rintro e w2 ⟨rfl,hB2,hk2⟩;have hF2:=hk2.get hF (by simp;omega);go_wp2_with fail;refine Calls.mono (HOA.out _ hB2) ?_;rintro e w3 ⟨hcase,hk3⟩;have hF3:=hk3.get hF2 (by simp);have hB3:=hB2.kept hk3 (by simp);have hKx:ab [x] w w3:=((hK.mono (by simp)).trans hk2).trans (hk3.mono (by simp));obtain⟨z0,z1,z2,z3⟩:=bR hF3;have yf:=ak hF3;have hF3w:=ae hF3;have hne:w.heap.size≠x:=by omega
  have hne2:x≠w.heap.size:=by omega
  cases hr:(r==0)
  · have hr':(r != 0)=true:=by simp[bne,hr]
    simp only[hr,Bool.false_eq_true,if_false]at hcase ⊢;subst hcase;have HB3:=(show Hid _ from hB3);clear hB3 hB2 hV;go_wp2
    exact bodyPost_ret (v:=.tuple #[.agg #[.int .i64 r,.string pf,.int .i64 pl,.int .i64 pc],.int .i64 6]) (by simp[results,Tryz.results36,go_sem,z0,z1,z2,z3,hF3w]) rfl
      ⟨⟨rfl,HB3.out.kept (((sS w3 w.heap.size _ _ _ _).alloc _).alloc _) (by simp;omega)⟩,((EB hKx (Nat.le_refl _) _ _ _ _).alloc _).alloc _⟩
  · have hr':(r != 0)=false:=by simp[bne,hr]
    simp only[hr,if_true]at hcase ⊢;obtain⟨H,g,a7,n7,c7,rfl,hS,hA,hN,hg⟩:=hcase;have hz9:=ae hF;have hz2:=hk2.size;have hz3:=hk3.size;obtain⟨c9,c10,c11,c12⟩:=na.cells hB3;have yv:=bm.free hB3;have HT:=(show Hid _ from na.turn hB3 true (.slice (H 6).ao l.length (H 6).cap) (.slice a7 n7 c7) (.slice (some ⟨g,0,none⟩) l.length l.length));have HS3:=(show Hid _ from hS);have HA3:=(show Hid _ from hA);have HN3:=(show Hid _ from hN);have hxw3:x<w3.heap.size:=bm.lt hB3;clear hB3 hB2 hV hS hA hN;unfold IZ at c10 c11 c12;unfold zf at HT;go_wp2
    exact bodyPost_ret (v:=.tuple #[.agg #[.int .i64 0,.string ⟨#[]⟩,.int .i64 0,.int .i64 0],.int .i64 0]) (by simp[results,Tryz.results36,go_sem,z0,z1,z2,z3,hF3w]) rfl
      ⟨⟨rfl,H,g,⟨⟨a7,n7,c7,bm.kept HT.out (((sS _ w.heap.size _ _ _ _).alloc _).alloc _) (by simp;omega)⟩,HS3.out.kept (((o8 (ab.refl [x,w.heap.size] w3) (Or.inl (by simp)) (Or.inl (by simp)) _ _ _ _ _ _ _ _).alloc _).alloc _) (fun k hk=>by have:=HN3.out k hk;simp;omega),(((o8 (ab.refl [x,w.heap.size] w3) (Or.inl (by simp)) (Or.inl (by simp)) _ _ _ _ _ _ _ _).alloc _).alloc _).get HA3.out (by simp;omega),⟨by omega,fun k hk=>by have:=HN3.out k hk;omega⟩⟩,by omega,fun k hk=>by have:=HN3.out k hk;omega⟩,
        ((o8 hKx (Or.inl (by simp)) (Or.inr (Nat.le_refl _)) _ _ _ _ _ _ _ _).alloc _).alloc _⟩
structure It where
 B:List Nat
 P:World->Prop
 lt:∀w,P w->∀b,b∈B->b<w.heap.size
 ok:∀S w w',P w->ab S w w'->(∀b,b∈B->b∉S)->P w'
def fe(I:Nat×Nat->It)(k:Nat×Nat)(it:It):Nat×Nat->It:=fun q=>if q=k then it else I q
theorem bS(I:Nat×Nat->It)(k:Nat×Nat)(it:It):fe I k it k=it:=by unfold fe;rw[if_pos rfl]
theorem aq(I:Nat×Nat->It){k q:Nat×Nat}(it:It)(h:q≠k):fe I k it q=I q:=by unfold fe;rw[if_neg h]
theorem bA{a b c d:Nat}(h:a≠c):((a,b):Nat×Nat)≠(c,d):=fun e=>h (by cases e;rfl)
theorem tC{a b c d:Nat}(h:b≠d):((a,b):Nat×Nat)≠(c,d):=fun e=>h (by cases e;rfl)
structure nD(w:World)(I:Nat×Nat->It):Prop where
 all:∀k,(I k).P w
 far:∀k k',k≠k'->∀b,b∈(I k).B->b∉(I k').B
theorem nD.still{w w':World}{I:Nat×Nat->It}(h:nD w I)(k:ab [] w w'):nD w' I :=
 ⟨fun q=>(I q).ok [] w w' (h.all q) k (fun _ _ hb=>by cases hb),h.far⟩
theorem nD.put{w w':World}{I:Nat×Nat->It}(h:nD w I)(k:Nat×Nat)(it:It)(K:ab (I k).B w w')(hp:it.P w')(hb:∀b,b∈it.B->b∈(I k).B∨w.heap.size<=b):nD w' (fe I k it):=by
 refine⟨fun q=>?_,fun q q' hq b h1 h2=>?_⟩
 ·by_cases e:q=k
  ·subst e;rw[bS];exact hp
  ·rw[aq I it e]
   exact(I q).ok _ w w' (h.all q) K (fun b h1=>h.far q k e b h1)
 ·by_cases e:q=k
  ·subst e
   rw[bS]at h1;rw[aq I it (Ne.symm hq)]at h2
   rcases hb b h1 with h3 | h3
   ·exact h.far q q' hq b h3 h2
   ·have:=(I q').lt w (h.all q') b h2;omega
  ·rw[aq I it e]at h1
   by_cases e':q'=k
   ·subst e'
    rw[bS]at h2
    rcases hb b h2 with h3 | h3
    ·exact h.far q q' hq b h1 h3
    ·have:=(I q).lt w (h.all q) b h1;omega
   ·rw[aq I it e']at h2
    exact h.far q q' hq b h1 h2
theorem nD.put2{w w':World}{I:Nat×Nat->It}(h:nD w I)(k1 k2:Nat×Nat)(hk:k1≠k2)(i1 i2:It)(K:ab ((I k1).B++(I k2).B) w w')(p1:i1.P w')(p2:i2.P w')(b1:∀b,b∈i1.B->b∈(I k1).B∨w.heap.size<=b)(b2:∀b,b∈i2.B->b∈(I k2).B∨w.heap.size<=b)(hd:∀b,b∈i1.B->b∉i2.B):nD w' (fe (fe I k1 i1) k2 i2):=by
 have far1:∀q,q≠k1->q≠k2->∀b,b∈(I q).B->b∉i1.B/\b∉i2.B:=fun q h1 h2 b hb=>by
  have:=(I q).lt w (h.all q) b hb;refine⟨fun x=>?_,fun x=>?_⟩
  ·rcases b1 b x with h3 | h3
   ·exact h.far q k1 h1 b hb h3
   ·omega
  ·rcases b2 b x with h3 | h3
   ·exact h.far q k2 h2 b hb h3
   ·omega
 have e1:fe (fe I k1 i1) k2 i2 k1=i1:=by rw[aq _ _ hk,bS]
 have e2:fe (fe I k1 i1) k2 i2 k2=i2:=bS _ _ _;have e3:∀q,q≠k1->q≠k2->fe (fe I k1 i1) k2 i2 q=I q:=fun q h1 h2=>by rw[aq _ _ h2,aq _ _ h1]
 refine⟨fun q=>?_,fun q q' hq b h1 h2=>?_⟩
 ·by_cases q1:q=k1
  ·subst q1;rw[e1];exact p1
  ·by_cases q2:q=k2
   ·subst q2;rw[e2];exact p2
   ·rw[e3 q q1 q2]
    exact(I q).ok _ w w' (h.all q) K (fun b hb hm=>(List.mem_append.1 hm).elim (h.far q k1 q1 b hb) (h.far q k2 q2 b hb))
 ·by_cases q1:q=k1
  ·subst q1
   rw[e1]at h1
   by_cases q2:q'=k2
   ·subst q2;rw[e2]at h2;exact hd b h1 h2
   ·rw[e3 q' (Ne.symm hq) q2]at h2;exact(far1 q' (Ne.symm hq) q2 b h2).1 h1
  ·by_cases q2:q=k2
   ·subst q2
    rw[e2]at h1
    by_cases q3:q'=k1
    ·subst q3;rw[e1]at h2;exact hd b h2 h1
    ·rw[e3 q' q3 (Ne.symm hq)]at h2;exact(far1 q' q3 (Ne.symm hq) b h2).2 h1
   ·rw[e3 q q1 q2]at h1
    by_cases q3:q'=k1
    ·subst q3;rw[e1]at h2;exact(far1 q q1 q2 b h1).1 h2
    ·by_cases q4:q'=k2
     ·subst q4;rw[e2]at h2;exact(far1 q q1 q2 b h1).2 h2
     ·rw[e3 q' q3 q4]at h2;exact h.far q q' hq b h1 h2
theorem nD.off{w:World}{I:Nat×Nat->It}(h:nD w I){k k':Nat×Nat}(hk:k≠k'){b:Nat}(hb:b∈(I k).B):b∉(I k').B:=h.far k k' hk b hb
def dh(f:Nat->Int):Nat->Int
 | 0=>0
 | n+1=>if(dh f n==0)=true then f n else dh f n
theorem mz{f:Nat->Int}{k n:Nat}(h0:dh f k=0)(h:(f k==0)=false)(hk:k<n):dh f n=f k:=by
 induction n with
 | zero=>omega
 | succ n ih =>
  rw[dh]
  by_cases e:k=n
  ·subst e;rw[h0];rfl
  ·rw[ih (by omega),if_neg (by rw[h];simp)]
def z9(fs:Fs)(i:Nat):Int:=if(cn (aC fs i) (aj fs i)==0)=false then cn (aC fs i) (aj fs i) else if 0<=bt (fs.take i) (aC fs i) then 4 else 0
def gg(fs:Fs):Int:=if 4<fs.length then 1 else dh (z9 fs) fs.length
def jz(fs0 fs:Fs):Fs:=if gg fs=0 then fs else fs0
theorem mg{fs0 fs:Fs}{r:Int}(h:gg fs=r)(hr:r≠0):jz fs0 fs=fs0:=by unfold jz;rw[if_neg (by rw[h];exact hr)]
theorem vv{fs0 fs:Fs}(h:gg fs=0):jz fs0 fs=fs:=by unfold jz;rw[if_pos h]
theorem KJ{f:Nat->Int}{n:Nat}(h:dh f n=0):∀i,i<n->f i=0:=by
 induction n with
 | zero=>intro i hi;omega
 | succ n ih =>
  rw[dh]at h
  split at h
  ·next h0 =>
   intro i hi
   by_cases e:i=n
   ·rw[e];exact h
   ·exact ih (eq_of_beq h0) i (by omega)
  ·next h0=>rw[h]at h0;exact absurd rfl h0
theorem IA{fs:Fs}(h:gg fs=0):fs.length<=4/\∀j,j<fs.length->(aj fs j).size<=1024:=by
 unfold gg at h
 split at h
 ·cases h
 ·refine⟨by omega,fun j hj=>?_⟩
  have h1:=KJ h j hj;unfold z9 at h1
  split at h1
  ·next e=>rw[h1]at e;cases e
  ·next e =>
   unfold cn at e
   split at e
   ·exact absurd rfl e
   ·split at e
    ·exact absurd rfl e
    ·omega
def kt(fs:Fs):Prop:=∀j,(aC fs j).size<=1073741824/\(aj fs j).size<=1073741824
theorem xO:(Tryz.prog.info? 68).map (fun i=>(i.zero,i.size,i.bytes))=some (some (.agg #[.string ⟨#[]⟩,.string ⟨#[]⟩]),2,32):=by kernel_rfl
def J0(f:ByteArray×ByteArray):List Value:=[.string f.1,.string f.2]
def oE(fs:Fs):List Value:=fs.flatMap J0
def b8(fs:Fs):dK:=⟨68,2,fs.length,oE fs⟩
theorem sN(fs:Fs):(oE fs).length=fs.length*2:=by
 induction fs with
 | nil=>rfl
 | cons t L ih=>rw[oE,List.flatMap_cons,List.length_append,show L.flatMap J0=oE L from rfl,ih];simp[J0];omega
theorem uw(fs:Fs)(j:Nat)(h:j<fs.length):(oE fs)[j*2]?=some (.string (aC fs j))/\(oE fs)[j*2+1]?=some (.string (aj fs j)):=by
 induction fs generalizing j with
 | nil=>simp at h
 | cons a L ih =>
  have e:oE (a :: L)=.string a.1 :: .string a.2 :: oE L:=rfl
  cases j with
  | zero=>exact⟨rfl,rfl⟩
  | succ j =>
   obtain⟨h1,h2⟩:=ih j (by simpa using h);rw[e,show(j+1)*2=j*2+1+1 by omega];exact⟨h1,h2⟩
theorem Cs(fs:Fs)(k:Nat)(n d:ByteArray)(h:k<fs.length):((oE fs).set (k*2) (.string n)).set (k*2+1) (.string d)=oE (fs.set k (n,d)):=by
 induction fs generalizing k with
 | nil=>simp at h
 | cons a L ih =>
  have e:∀x:ByteArray×ByteArray,oE (x :: L)=.string x.1 :: .string x.2 :: oE L:=fun _=>rfl
  cases k with
  | zero=>rfl
  | succ k =>
   rw[List.set_cons_succ,show(k+1)*2=k*2+1+1 by omega,e]
   show _=Value.string a.1 :: Value.string a.2 :: oE (L.set k (n,d))
   rw[<-ih k (by simpa using h)];rfl
theorem uD(fs:Fs)(t:ByteArray×ByteArray):(⟨(b8 fs).e,(b8 fs).size,(b8 fs).n+1,(b8 fs).xs++J0 t⟩:dK)=b8 (fs++[t]):=by
 simp[b8,oE]
theorem C3(fs:Fs):∀u∈oE fs,u.oneCell'=true:=by
 intro u hu;obtain⟨x,-,h⟩:=List.mem_flatMap.1 hu;unfold J0 at h;simp only[List.mem_cons,List.not_mem_nil,or_false]at h
 rcases h with rfl | rfl <;> rfl
end Go.Proofs.YtpddjjabfbfifaaGreat
