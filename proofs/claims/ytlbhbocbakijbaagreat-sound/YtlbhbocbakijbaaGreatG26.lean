import Derived.Test.YtlbhbocbakijbaaGreatG25
namespace Go.Proofs.YtlbhbocbakijbaaGreat
open Go.RowKit
set_option maxHeartbeats 0
def A8(n:dM)(f:Fm)(i:Nat):Bool:=decide (i=0)||pa n f i
theorem Cb(n:dM)(f:Fm):fO n f=(!lp n (gD f.goal 0)||(List.range f.goal.length).all (A8 n f)):=rfl
set_option maxRecDepth 100000 in
theorem zp(b x0:Nat)(T:ByteArray)(rv:Value)(n:dM)(Hn:Nat->Hd)(F m0:Nat)(lab:ByteArray)(lv:Value)(f:Fm)(es:List Ex)(hg:Hd)(H:Nat->Hd)(w:World)(hn:bm w b x0 T rv n Hn)(ok:dH n 1073741824)(h:eJ w F m0 lab lv f es hg H)(fo:qz f) :
  Calls Tryz.prog 37 #[.pointer (some ⟨b,3,none⟩),.pointer (some ⟨F,0,none⟩)] w fun r w'=>r=.returned (.bool (fO n f))/\aa [] w w':=by
 have hbw:=af.lt hn;have HFI:Hid (∀s wx,aa [] w wx->Calls Tryz.prog 32 #[.slice (Hn 4).ao n.lin.length (Hn 4).cap,.string s] wx fun r w'=>r=.returned (.int .i64 (bQ (aL n.lin s)))/\w'=wx):=fun s wx k=>eC (Hn 4) n.lin s wx (hn.own.2.2.2.2.view.still k) ok.ll
 have HFV:Hid (∀s wx,aa [] w wx->Calls Tryz.prog 32 #[.slice (H 2).ao f.vars.length (H 2).cap,.string s] wx fun r w'=>r=.returned (.int .i64 (bQ (aL f.vars s)))/\w'=wx):=fun s wx k=>eC (H 2) f.vars s wx (h.vw.1.still k) fo.v
 have HFA:Hid (∀s t wx,aa [] w wx->Calls Tryz.prog 72 #[.pointer (some ⟨F,0,none⟩),.string s,.string t] wx fun r w'=>r=.returned (.bool (eG f s t))/\aa [] wx w'):=fun s t wx k=>oO F m0 lab lv f es hg H s t wx (h.still k) fo.l
 have HGV:Hid (∀s t two wx,aa [] w wx->Calls Tryz.prog 71 #[.pointer (some ⟨b,3,none⟩),.pointer (some ⟨F,0,none⟩),.string s,.string t,.bool two] wx fun r w'=>r=.returned (.bool (eN n f s t two))/\aa [] wx w'):=fun s t two wx k=>xb b x0 T rv n Hn F m0 lab lv f es hg H s t two wx (af.still hn k) ok (h.still k) fo
 have HS:Hid (∀wx,aa [] w wx->(wx.cell? ⟨b,8,none⟩=some (.slice (Hn 4).ao n.lin.length (Hn 4).cap)/\wx.cell? ⟨F,4,none⟩=some (.slice (H 2).ao f.vars.length (H 2).cap)/\wx.cell? ⟨F,5,none⟩=some (.slice (H 3).ao f.types.length (H 3).cap)/\wx.cell? ⟨F,9,none⟩=some (.slice hg.ao f.goal.length hg.cap))/\b<wx.heap.size/\F<wx.heap.size):=fun wx k=>by
  obtain⟨c4,c5,-,-,-,c9,hF⟩:=(h.still k).rd;exact⟨⟨(bm.in_ (af.still hn k)).2.2.2.2.2,c4,c5,c9⟩,Nat.lt_of_lt_of_le hbw k.size,hF⟩
 have HVT:Hid (bH w (H 3) f.types):=h.vw.2.1;have HTL:=(show Hid _ from fo.t);have HLE:=(show Hid _ from Cb n f);have hgl:=fo.g;have hk0:0<f.goal.length:=by omega
 obtain⟨g0,o0,e0,hc0,HC0⟩:=dL h.vw.2.2.2.2 hk0
 have HG:Hid (∀i (hi:i<f.goal.length) wx,aa [] w wx->g0<wx.heap.size/\wx.cell? ⟨g0,o0+i,none⟩=some (.string f.goal[i])):=fun i hi wx q=>by
  obtain⟨g',o',e',-,HC'⟩:=dL h.vw.2.2.2.2 hi;rw[e0]at e';cases e';exact HC' wx q
 clear h hn ok fo HC0;obtain⟨A4,HA4⟩:∃AO,Hid ((Hn 4).ao=AO):=⟨_,rfl⟩
 obtain⟨B2,HB2⟩:∃AO,Hid ((H 2).ao=AO):=⟨_,rfl⟩
 obtain⟨B3,HB3⟩:∃AO,Hid ((H 3).ao=AO):=⟨_,rfl⟩
 rw[HA4.out]at HFI HS;rw[HB2.out]at HFV HS;rw[HB3.out,e0]at HS;clear e0;obtain⟨⟨c8,c4,c5,c9⟩,hbr,hFr⟩:=HS.out w (aa.refl _ _);obtain⟨gw,cg⟩:=HG.out 0 hk0 w (aa.refl _ _);rw[Nat.add_zero]at cg;have hx0:(0:Int)<(f.goal.length:Int):=by omega
 rw[gU _ _ hk0]at HLE;have HF1:=(show Hid _ from HFI.out f.goal[0]);have HLT:Hid (lp n f.goal[0]=(aL n.lin f.goal[0]).isSome):=rfl;rw[HLT.out]at HLE;generalize f.goal[0]=t at *;go_enter Tryz.func37,Tryz.ntmps37
 go_upto_region 1 with fail
 go_region_held3 (fun w'=>w'.cell? ⟨b,8,none⟩=some (.slice A4 n.lin.length (Hn 4).cap)/\w'.cell? ⟨F,9,none⟩=some (.slice (some ⟨g0,o0,none⟩) f.goal.length hg.cap)/\w'.cell? ⟨g0,o0,none⟩=some (.string t)) (go_keep) ((go_at_call 32;refine Calls.mono (HF1.out _ (by exact(aa.refl [] w).drew)) ?_;rintro e2 w2 ⟨rfl,hw2⟩;rw[hw2];clear hw2))
 have hK1:=(aa.refl [] w).drew;generalize World.drew _=wd at *;clear c8 c4 c5 c9 hbr hFr gw cg HF1
 cases hpl:aL n.lin t with
 | none =>
  rw[hpl]at HLE;have HJ1:Hid (fO n f=true):=HLE.out;rw[show bQ none=-1 from rfl];go_wp2;go_ret;exact⟨GQ HJ1.out.symm,hK1⟩
 | some pl =>
  rw[hpl]at HLE;have HLE2:Hid (fO n f=(List.range f.goal.length).all (A8 n f)):=HLE.out;rw[show bQ (some pl)=(pl:Int) from rfl];clear HLE HLT;go_wp2
  go_loopg [6] (f.goal.length-1) (fun g iv wr=>∃k:Nat,(1<=k/\k<=f.goal.length)/\g=f.goal.length-k/\iv=.int .i64 k/\Hid ((List.range k).all (A8 n f)=true)/\aa [] w wr)
  case atStart=>exact⟨1,⟨by omega,by omega⟩,rfl,rfl,rfl,hK1⟩
  case round =>
   obtain⟨k,⟨hk1,hk⟩,hgk,rfl,HT,hK⟩:=hrel;obtain⟨⟨c8,c4,c5,c9⟩,hbr,hFr⟩:=HS.out _ hK
   by_cases hlt:k<f.goal.length
   ·have hki:(k:Int)<(f.goal.length:Int):=by omega
    obtain⟨gw,cg⟩:=HG.out k hlt _ hK;have HNX:=(show Hid _ from je (A8 n f) k);rw[HT.out,Bool.true_and]at HNX;have HNO:Hid (A8 n f k=false->fO n f=false):=fun hh=>by rw[HLE2.out];exact yL hlt hh
    have HKI:Hid (A8 n f k=pa n f k):=by show _=_;unfold A8;rw[show decide (k=0)=false by simp;omega,Bool.false_or]
    have HGk:Hid (∀wx,aa [] w wx->g0<wx.heap.size/\wx.cell? ⟨g0,o0+k,none⟩=some (.string f.goal[k])):=fun wx q=>HG.out k hlt wx q
    have HDk:=(show Hid _ from gU f.goal k hlt);have HFV1:=(show Hid _ from HFV.out f.goal[k]);generalize hyy:f.goal[k]=y at *;clear hyy
    go_upto_region 7 with fail
    go_region_held3 (fun w'=>w'.cell? ⟨F,4,none⟩=some (.slice B2 f.vars.length (H 2).cap)/\w'.cell? ⟨F,9,none⟩=some (.slice (some ⟨g0,o0,none⟩) f.goal.length hg.cap)/\w'.cell? ⟨g0,o0+k,none⟩=some (.string y)) (go_keep) ((go_at_call 32;refine Calls.mono (HFV1.out _ (by exact hK.drew)) ?_;rintro e2 w2 ⟨rfl,hw2⟩;rw[hw2];clear hw2))
    have hK2:=hK.drew;generalize World.drew _=wd2 at *;clear c8 c4 c5 c9 hbr hFr gw cg HFV1;obtain⟨⟨c8,c4,c5,c9⟩,hbr,hFr⟩:=HS.out _ hK2;obtain⟨gw,cg⟩:=HGk.out _ hK2
    have HKE:Hid (pa n f k=match aL f.vars y with | none=>true | some x=>(lp n (gD f.types x)||eN n f y y false)&&(List.range k).all (ef n f k)):=by
     show _=_;unfold pa;rw[HDk.out];cases aL f.vars y <;> rfl
    cases hpv:aL f.vars y with
    | none =>
     rw[hpv]at HKE;have HJ1:Hid (A8 n f k=true):=by show _=_;rw[HKI.out];exact HKE.out
     rw[show bQ none=-1 from rfl];go_wp2
     go_roundg (f.goal.length-(k+1))
     case measure=>omega
     case rel=>exact⟨k+1,⟨by omega,by omega⟩,rfl,by go_num,by show _=_;rw[HNX.out];exact HJ1.out,hK2⟩
    | some px =>
     rw[hpv]at HKE;have hpx:px<f.types.length:=by have:=List.mem_range.1 (List.mem_of_find?_eq_some hpv);have:=HTL.out;omega
     have hpi:(px:Int)<(f.types.length:Int):=by omega
     obtain⟨g3,o3,e3,hc3,HC3⟩:=dL HVT.out hpx;obtain rfl:B3=some ⟨g3,o3,none⟩:=HB3.out.symm.trans e3
     have HKE2:Hid (pa n f k=(((aL n.lin f.types[px]).isSome||eN n f y y false)&&(List.range k).all (ef n f k))):=by
      show _=_;rw[HKE.out];simp only;rw[gU _ _ hpx];rfl
     have HFI1:=(show Hid _ from HFI.out f.types[px]);have HGV1:=(show Hid _ from HGV.out y y false);obtain⟨gw3,ct⟩:=HC3 _ hK2;generalize f.types[px]=tt at *;rw[show bQ (some px)=(px:Int) from rfl];clear HKE
     go_upto_region 9 with fail
     go_region_held3 (fun w'=>w'.cell? ⟨b,8,none⟩=some (.slice A4 n.lin.length (Hn 4).cap)/\w'.cell? ⟨F,5,none⟩=some (.slice (some ⟨g3,o3,none⟩) f.types.length (H 3).cap)/\w'.cell? ⟨g3,o3+px,none⟩=some (.string tt)) (go_keep) ((go_at_call 32;refine Calls.mono (HFI1.out _ (by exact hK2.drew)) ?_;rintro e2 w2 ⟨rfl,hw2⟩;rw[hw2];clear hw2))
     have hK3:=hK2.drew;generalize World.drew _=wd3 at *;clear c8 c4 c5 c9 hbr hFr gw cg gw3 ct HFI1 HC3;obtain⟨⟨c8,c4,c5,c9⟩,hbr,hFr⟩:=HS.out _ hK3;obtain⟨gw,cg⟩:=HGk.out _ hK3
     go_upto_region 10 with fail
     go_region_held3 (fun w'=>w'.cell? ⟨F,9,none⟩=some (.slice (some ⟨g0,o0,none⟩) f.goal.length hg.cap)/\w'.cell? ⟨g0,o0+k,none⟩=some (.string y)) (go_keep) ((go_at_call 71;refine Calls.mono (HGV1.out _ (by exact hK3.drew)) ?_;rintro e2 w4 ⟨rfl,k4⟩;obtain⟨⟨-,-,-,c9⟩,hbr,hFr⟩:=HS.out _ (hK3.drew.trans k4);obtain⟨gw,cg⟩:=HGk.out _ (hK3.drew.trans k4)))
     have hK4:=hK3.drew.trans k4;clear c8 c4 c5 c9 hbr hFr gw cg HGV1;generalize eN n f y y false=hb at *
     cases hpt:aL n.lin tt with
     | none =>
      rw[hpt]at HKE2;rw[show bQ none=-1 from rfl]
      cases hb
      ·have HJ1:Hid (fO n f=false):=HNO.out (by rw[HKI.out,HKE2.out];rfl)
       go_wp2;go_ret;exact⟨GQ HJ1.out.symm,hK4⟩
      ·have HKA:Hid (A8 n f k=(List.range k).all (ef n f k)):=by show _=_;rw[HKI.out,HKE2.out];rfl
       clear HKI HKE2;go_wp2
       go_loopg [10] (k-1) (fun g jv ws=>∃m:Nat,(1<=m/\m<=k)/\g=k-m/\jv=.int .i64 m/\Hid ((List.range m).all (ef n f k)=true)/\aa [] w ws)
       case atStart=>exact⟨1,⟨by omega,by omega⟩,rfl,rfl,rfl,hK4⟩
       case round =>
        obtain⟨m,⟨hm1,hm⟩,hgm,rfl,HB,hKs⟩:=hrel
        by_cases hml:m<k
        ·have hmi:(m:Int)<(k:Int):=by omega
         have hml2:m<f.goal.length:=by omega
         have hme:(m:Int)<(f.goal.length:Int):=by omega
         have HGm:Hid (∀wx,aa [] w wx->g0<wx.heap.size/\wx.cell? ⟨g0,o0+m,none⟩=some (.string f.goal[m])):=fun wx q=>HG.out m hml2 wx q
         have HDm:=(show Hid _ from gU f.goal m hml2)
         have HJ:Hid (ef n f k m=!((aL f.vars f.goal[m]).isSome && !eG f y f.goal[m] && !eN n f y f.goal[m] true)):=by
          show _=_;unfold ef BZ;rw[HDk.out,HDm.out,show decide (m=0)=false by simp;omega,Bool.false_or]
         have HNJ:=(show Hid _ from je (ef n f k) m);rw[HB.out,Bool.true_and]at HNJ;have HNI:Hid (ef n f k m=false->A8 n f k=false):=fun hh=>by rw[HKA.out];exact yL hml hh
         have HFV2:=(show Hid _ from HFV.out f.goal[m]);have HFA2:=(show Hid _ from HFA.out y f.goal[m]);have HGV2:=(show Hid _ from HGV.out y f.goal[m] true);generalize hzz:f.goal[m]=z at *;clear hzz
         have HSS:Hid (∀wx,aa [] w wx->(wx.cell? ⟨F,4,none⟩=some (.slice B2 f.vars.length (H 2).cap)/\wx.cell? ⟨F,9,none⟩=some (.slice (some ⟨g0,o0,none⟩) f.goal.length hg.cap)/\wx.cell? ⟨g0,o0+k,none⟩=some (.string y)/\wx.cell? ⟨g0,o0+m,none⟩=some (.string z))/\F<wx.heap.size/\g0<wx.heap.size/\b<wx.heap.size):=fun wx q=>by
          obtain⟨⟨-,q4,-,q9⟩,qb,qf⟩:=HS.out wx q;exact⟨⟨q4,q9,(HGk.out wx q).2,(HGm.out wx q).2⟩,qf,(HGk.out wx q).1,qb⟩
         obtain⟨⟨d0,d1,d2,d3⟩,d4,d5,d6⟩:=HSS.out _ hKs;clear HGm HDm
         go_upto_region 16 with fail
         go_region_held3 (fun w'=>w'.cell? ⟨F,4,none⟩=some (.slice B2 f.vars.length (H 2).cap)/\w'.cell? ⟨F,9,none⟩=some (.slice (some ⟨g0,o0,none⟩) f.goal.length hg.cap)/\w'.cell? ⟨g0,o0+m,none⟩=some (.string z)) (go_keep) ((go_at_call 32;refine Calls.mono (HFV2.out _ (by exact hKs.drew)) ?_;rintro e2 w2 ⟨rfl,hw2⟩;rw[hw2];clear hw2))
         have hK5:=hKs.drew;generalize World.drew _=wd5 at *;clear d0 d1 d2 d3 d4 d5 d6;obtain⟨⟨d0,d1,d2,d3⟩,d4,d5,d6⟩:=HSS.out _ hK5
         go_upto_region 17 with fail
         go_region_held3 (fun w'=>w'.cell? ⟨F,9,none⟩=some (.slice (some ⟨g0,o0,none⟩) f.goal.length hg.cap)/\w'.cell? ⟨g0,o0+k,none⟩=some (.string y)/\w'.cell? ⟨g0,o0+m,none⟩=some (.string z)) (go_keep) ((go_at_call 72;refine Calls.mono (HFA2.out _ (by exact hK5.drew)) ?_;rintro e2 w6 ⟨rfl,k6⟩;obtain⟨⟨d0,d1,d2,d3⟩,d4,d5,d6⟩:=HSS.out _ (hK5.drew.trans k6)))
         have hK6:=hK5.drew.trans k6;clear d0 d1 d2 d3 d4 d5 d6;obtain⟨⟨d0,d1,d2,d3⟩,d4,d5,d6⟩:=HSS.out _ hK6
         go_upto_region 18 with fail
         go_region_held3 (fun w'=>w'.cell? ⟨F,9,none⟩=some (.slice (some ⟨g0,o0,none⟩) f.goal.length hg.cap)/\w'.cell? ⟨g0,o0+k,none⟩=some (.string y)/\w'.cell? ⟨g0,o0+m,none⟩=some (.string z)) (go_keep) ((go_at_call 71;refine Calls.mono (HGV2.out _ (by exact hK6.drew)) ?_;rintro e2 w7 ⟨rfl,k7⟩;obtain⟨⟨d0,d1,d2,d3⟩,d4,d5,d6⟩:=HSS.out _ (hK6.drew.trans k7)))
         have hK7:=hK6.drew.trans k7;clear HFV2 HFA2 HGV2 HSS d0 d1 d2 d3 d4 d5 d6;have GON:Hid (ef n f k m=true->Hid ((List.range (m+1)).all (ef n f k)=true)):=fun hh=>by show _=_;rw[HNJ.out];exact hh
         generalize eG f y z=pb at *;generalize eN n f y z true=gb at *
         cases hpz:aL f.vars z with
         | none =>
          rw[hpz]at HJ;have HJ1:Hid (ef n f k m=true):=HJ.out;rw[show bQ none=-1 from rfl];go_wp2
          go_roundg (k-(m+1))
          case measure=>omega
          case rel=>exact⟨m+1,⟨by omega,by omega⟩,rfl,by go_num,GON.out HJ1.out,hK7⟩
         | some pz =>
          rw[hpz]at HJ;rw[show bQ (some pz)=(pz:Int) from rfl]
          cases pb
          ·cases gb
           ·have HJ1:Hid (fO n f=false):=HNO.out (HNI.out HJ.out)
            go_wp2;go_ret;exact⟨GQ HJ1.out.symm,hK7⟩
           ·have HJ1:Hid (ef n f k m=true):=HJ.out
            go_wp2
            go_roundg (k-(m+1))
            case measure=>omega
            case rel=>exact⟨m+1,⟨by omega,by omega⟩,rfl,by go_num,GON.out HJ1.out,hK7⟩
          ·have HJ1:Hid (ef n f k m=true):=HJ.out
           go_wp2
           go_roundg (k-(m+1))
           case measure=>omega
           case rel=>exact⟨m+1,⟨by omega,by omega⟩,rfl,by go_num,GON.out HJ1.out,hK7⟩
        ·have hmi:¬(m:Int)<(k:Int):=by omega
         have em:m=k:=by omega
         subst em;go_wp2
         go_roundg (f.goal.length-(m+1))
         case measure=>omega
         case rel=>exact⟨m+1,⟨by omega,by omega⟩,rfl,by go_num,by show _=_;rw[HNX.out,HKA.out];exact HB.out,hKs⟩
     | some pt =>
      rw[hpt]at HKE2;rw[show bQ (some pt)=(pt:Int) from rfl];have HKA:Hid (A8 n f k=(List.range k).all (ef n f k)):=by show _=_;rw[HKI.out,HKE2.out];rfl
      clear HKI HKE2;go_wp2
      go_loopg [10] (k-1) (fun g jv ws=>∃m:Nat,(1<=m/\m<=k)/\g=k-m/\jv=.int .i64 m/\Hid ((List.range m).all (ef n f k)=true)/\aa [] w ws)
      case atStart=>exact⟨1,⟨by omega,by omega⟩,rfl,rfl,rfl,hK4⟩
      case round =>
       obtain⟨m,⟨hm1,hm⟩,hgm,rfl,HB,hKs⟩:=hrel
       by_cases hml:m<k
       ·have hmi:(m:Int)<(k:Int):=by omega
        have hml2:m<f.goal.length:=by omega
        have hme:(m:Int)<(f.goal.length:Int):=by omega
        have HGm:Hid (∀wx,aa [] w wx->g0<wx.heap.size/\wx.cell? ⟨g0,o0+m,none⟩=some (.string f.goal[m])):=fun wx q=>HG.out m hml2 wx q
        have HDm:=(show Hid _ from gU f.goal m hml2)
        have HJ:Hid (ef n f k m=!((aL f.vars f.goal[m]).isSome && !eG f y f.goal[m] && !eN n f y f.goal[m] true)):=by
         show _=_;unfold ef BZ;rw[HDk.out,HDm.out,show decide (m=0)=false by simp;omega,Bool.false_or]
        have HNJ:=(show Hid _ from je (ef n f k) m);rw[HB.out,Bool.true_and]at HNJ;have HNI:Hid (ef n f k m=false->A8 n f k=false):=fun hh=>by rw[HKA.out];exact yL hml hh
        have HFV2:=(show Hid _ from HFV.out f.goal[m]);have HFA2:=(show Hid _ from HFA.out y f.goal[m]);have HGV2:=(show Hid _ from HGV.out y f.goal[m] true);generalize hzz:f.goal[m]=z at *;clear hzz
        have HSS:Hid (∀wx,aa [] w wx->(wx.cell? ⟨F,4,none⟩=some (.slice B2 f.vars.length (H 2).cap)/\wx.cell? ⟨F,9,none⟩=some (.slice (some ⟨g0,o0,none⟩) f.goal.length hg.cap)/\wx.cell? ⟨g0,o0+k,none⟩=some (.string y)/\wx.cell? ⟨g0,o0+m,none⟩=some (.string z))/\F<wx.heap.size/\g0<wx.heap.size/\b<wx.heap.size):=fun wx q=>by
         obtain⟨⟨-,q4,-,q9⟩,qb,qf⟩:=HS.out wx q;exact⟨⟨q4,q9,(HGk.out wx q).2,(HGm.out wx q).2⟩,qf,(HGk.out wx q).1,qb⟩
        obtain⟨⟨d0,d1,d2,d3⟩,d4,d5,d6⟩:=HSS.out _ hKs;clear HGm HDm
        go_upto_region 16 with fail
        go_region_held3 (fun w'=>w'.cell? ⟨F,4,none⟩=some (.slice B2 f.vars.length (H 2).cap)/\w'.cell? ⟨F,9,none⟩=some (.slice (some ⟨g0,o0,none⟩) f.goal.length hg.cap)/\w'.cell? ⟨g0,o0+m,none⟩=some (.string z)) (go_keep) ((go_at_call 32;refine Calls.mono (HFV2.out _ (by exact hKs.drew)) ?_;rintro e2 w2 ⟨rfl,hw2⟩;rw[hw2];clear hw2))
        have hK5:=hKs.drew;generalize World.drew _=wd5 at *;clear d0 d1 d2 d3 d4 d5 d6;obtain⟨⟨d0,d1,d2,d3⟩,d4,d5,d6⟩:=HSS.out _ hK5
        go_upto_region 17 with fail
        go_region_held3 (fun w'=>w'.cell? ⟨F,9,none⟩=some (.slice (some ⟨g0,o0,none⟩) f.goal.length hg.cap)/\w'.cell? ⟨g0,o0+k,none⟩=some (.string y)/\w'.cell? ⟨g0,o0+m,none⟩=some (.string z)) (go_keep) ((go_at_call 72;refine Calls.mono (HFA2.out _ (by exact hK5.drew)) ?_;rintro e2 w6 ⟨rfl,k6⟩;obtain⟨⟨d0,d1,d2,d3⟩,d4,d5,d6⟩:=HSS.out _ (hK5.drew.trans k6)))
        have hK6:=hK5.drew.trans k6;clear d0 d1 d2 d3 d4 d5 d6;obtain⟨⟨d0,d1,d2,d3⟩,d4,d5,d6⟩:=HSS.out _ hK6
        go_upto_region 18 with fail
        go_region_held3 (fun w'=>w'.cell? ⟨F,9,none⟩=some (.slice (some ⟨g0,o0,none⟩) f.goal.length hg.cap)/\w'.cell? ⟨g0,o0+k,none⟩=some (.string y)/\w'.cell? ⟨g0,o0+m,none⟩=some (.string z)) (go_keep) ((go_at_call 71;refine Calls.mono (HGV2.out _ (by exact hK6.drew)) ?_;rintro e2 w7 ⟨rfl,k7⟩;obtain⟨⟨d0,d1,d2,d3⟩,d4,d5,d6⟩:=HSS.out _ (hK6.drew.trans k7)))
        have hK7:=hK6.drew.trans k7;clear HFV2 HFA2 HGV2 HSS d0 d1 d2 d3 d4 d5 d6;have GON:Hid (ef n f k m=true->Hid ((List.range (m+1)).all (ef n f k)=true)):=fun hh=>by show _=_;rw[HNJ.out];exact hh
        generalize eG f y z=pb at *;generalize eN n f y z true=gb at *
        cases hpz:aL f.vars z with
        | none =>
         rw[hpz]at HJ;have HJ1:Hid (ef n f k m=true):=HJ.out;rw[show bQ none=-1 from rfl];go_wp2
         go_roundg (k-(m+1))
         case measure=>omega
         case rel=>exact⟨m+1,⟨by omega,by omega⟩,rfl,by go_num,GON.out HJ1.out,hK7⟩
        | some pz =>
         rw[hpz]at HJ;rw[show bQ (some pz)=(pz:Int) from rfl]
         cases pb
         ·cases gb
          ·have HJ1:Hid (fO n f=false):=HNO.out (HNI.out HJ.out)
           go_wp2;go_ret;exact⟨GQ HJ1.out.symm,hK7⟩
          ·have HJ1:Hid (ef n f k m=true):=HJ.out
           go_wp2
           go_roundg (k-(m+1))
           case measure=>omega
           case rel=>exact⟨m+1,⟨by omega,by omega⟩,rfl,by go_num,GON.out HJ1.out,hK7⟩
         ·have HJ1:Hid (ef n f k m=true):=HJ.out
          go_wp2
          go_roundg (k-(m+1))
          case measure=>omega
          case rel=>exact⟨m+1,⟨by omega,by omega⟩,rfl,by go_num,GON.out HJ1.out,hK7⟩
       ·have hmi:¬(m:Int)<(k:Int):=by omega
        have em:m=k:=by omega
        subst em;go_wp2
        go_roundg (f.goal.length-(m+1))
        case measure=>omega
        case rel=>exact⟨m+1,⟨by omega,by omega⟩,rfl,by go_num,by show _=_;rw[HNX.out,HKA.out];exact HB.out,hKs⟩
   ·have hki:¬(k:Int)<(f.goal.length:Int):=by omega
    have HR:Hid (fO n f=true):=by show _=_;rw[HLE2.out,show f.goal.length=k by omega];exact HT.out
    go_wp2;go_ret;exact⟨GQ HR.out.symm,hK⟩
end Go.Proofs.YtlbhbocbakijbaaGreat
