import Derived.Test.YtlbhbocbakijbaaGreatG34
namespace Go.Proofs.YtlbhbocbakijbaaGreat
open Go.RowKit
set_option maxHeartbeats 0
theorem Gv{w:World}{bo:Option Nat}{L:List ByteArray}(h:qC w bo L){k:Nat}(hk:k<L.length):∃g,FN bo=some ⟨g,0,none⟩/\∀wx,aa [] w wx->g<wx.heap.size/\wx.cell? ⟨g,k,none⟩=some (.string L[k]):=by
 cases bo with
 | none=>rw[h.nil.1 rfl]at hk;simp at hk
 | some g =>
  refine⟨g,rfl,fun wx q=>?_⟩;have hb:=q.get (h.blk g rfl) (by simp);exact⟨ac hb,by rw[ab hb];simp[strs,hk]⟩
set_option maxRecDepth 100000 in
theorem xi(b x gr:Nat)(T:ByteArray)(n:dM)(H:Nat->Hd)(fs:Fs)(Hr:Nat->Hd)(g nr:Nat)(w:World)(hn:bm w b x T (.slice (some ⟨gr,0,none⟩) (bj T).length (bj T).length) n H)(ok:dH n 1073741824)(hT:iq T)
  (hr:w.heap[gr]?=some (.cells (d8 (bj T)).toArray 53 (0,0))) (hR:dP w x fs (bC T).2.sts Hr g) (hnr:Hid ((bj T).length=nr)) :
  Calls Tryz.prog 10 #[.pointer (some ⟨b,0,none⟩)] w fun e w'=>e=.returned (.bool true)/\aa [] w w':=by
 have hbw:=af.lt hn;have hxw:=hR.anyR.lt;have okr:=iW T hT.size hT.inc
 have hlr:(bj T).length<=10000:=by
  have h1:(bj T).length<=(bC T).2.sts.length:=by
   unfold bj;rw[mN,List.length_map];have:=List.length_filter_le (fun n=>!((bq (bC T).2.sts n).verdict==0)) (List.range (bC T).2.sts.length);rw[List.length_range]at this;exact this
  have:=okr.ok.len;omega
 have HLEN:Hid ((bC T).2.sts.length<=10000):=okr.ok.len;have hnl:nr<=10000:=by rw[<-hnr.out];exact hlr
 have HS:Hid (∀wx,aa [] w wx->(wx.cell? ⟨b,0,none⟩=some (.pointer (some ⟨x,0,none⟩))/\wx.cell? ⟨b,2,none⟩=some (.slice (some ⟨gr,0,none⟩) nr nr))/\b<wx.heap.size/\gr<wx.heap.size/\x<wx.heap.size):=fun wx q=>by
  have h1:=af.still hn q;refine⟨⟨by rw[af.cell h1];rfl,by rw[af.cell h1,<-hnr.out];rfl⟩,af.lt h1,Nat.lt_of_lt_of_le (ac hr) q.size,Nat.lt_of_lt_of_le hxw q.size⟩
 have HRW:Hid (∀k (hk:k<nr) wx,aa [] w wx->wx.cell? ⟨gr,k*6,none⟩=some (.string ((bj T)[k]'(by rw[hnr.out];exact hk)).label)/\wx.cell? ⟨gr,k*6+1,none⟩=some (.int .i64 ((bj T)[k]'(by rw[hnr.out];exact hk)).verdict)):=fun k hk wx q=>by
  have:=ly (q.get hr (by simp)) (fun j v hj=>by simpa using hj) k (by rw[hnr.out];exact hk);exact⟨this.1,this.2.1⟩
 have HPR:=(show Hid _ from pP b x T _ n H w hn ok)
 have HFO:Hid (∀lab m wx (_:aa [] w wx) (_:ey (bC T).2.sts lab=some m) (fr:nZ (bC T).2.sts m) (_:((bC T).2.sts[m]'fr.ha).label.toList=lab.toList),Calls Tryz.prog 17 #[.pointer (some ⟨b,0,none⟩),.string lab] wx fun e w'=>∃F lv es hg Hf,e=.returned (.tuple #[.pointer (some ⟨F,0,none⟩),.bool true])/\eJ w' F wx.heap.size lab lv (cP (aM (bC T).2.sts m)) es hg Hf/\aa [] wx w'):=fun lab m wx q h1 h2 h3 =>
  Ai b x T fs Hr g lab m wx (HS.out wx q).1.1 (HS.out wx q).2.1 hT (hR.still q) h1 h2 h3
 have HUS:Hid (∀lab wx,aa [] w wx->Calls Tryz.prog 34 #[.pointer (some ⟨x,0,none⟩),.string lab] wx fun e w'=>Dv (r6 (bC T).2.sts lab).1.1 (r6 (bC T).2.sts lab).1.2 (r6 (bC T).2.sts lab).2 wx e w'):=fun lab wx q=>AN x fs _ Hr g lab wx (hR.still q) okr.ok okr.prf
 have HRO:Hid (∀lab wx,aa [] w wx->Calls Tryz.prog 35 #[.pointer (some ⟨b,0,none⟩),.string lab] wx fun e w'=>e=.returned (.int .i64 (bQ (sO (bj T) lab)))/\w'=wx):=fun lab wx q=>C3 b x gr T n H (bj T) lab wx (af.still hn q) (q.get hr (by simp)) (by omega)
 have HHL:Hid (∀F m0 lab lv f es hg Hf wx,aa [] w wx->eJ wx F m0 lab lv f es hg Hf->qz f/\f.vars.length<=100000->Calls Tryz.prog 36 #[.pointer (some ⟨b,3,none⟩),.pointer (some ⟨F,0,none⟩),.slice none 0 0] wx fun e w'=>e=.returned (.bool (iL n f f.vars.length []))/\aa [] wx w'):=fun F m0 lab lv f es hg Hf wx q h fo =>
  zi b x T _ n H F m0 lab lv f es hg Hf ok fo.1 fo.2 f.vars.length ⟨none,0⟩ [] wx (af.still hn q) h (World.ownsRow_nil _ _ _ _) (by simp) (fun v hv=>by cases hv)
 have HKL:Hid (∀F m0 lab lv f es hg Hf wx,aa [] w wx->eJ wx F m0 lab lv f es hg Hf->qz f->Calls Tryz.prog 37 #[.pointer (some ⟨b,3,none⟩),.pointer (some ⟨F,0,none⟩)] wx fun e w'=>e=.returned (.bool (fO n f))/\aa [] wx w'):=fun F m0 lab lv f es hg Hf wx q h fo=>zp b x T _ n H F m0 lab lv f es hg Hf wx (af.still hn q) ok h fo
 have HIL:Hid (∀F m0 lab lv f es hg Hf wx,aa [] w wx->eJ wx F m0 lab lv f es hg Hf->qz f->Calls Tryz.prog 38 #[.pointer (some ⟨b,3,none⟩),.pointer (some ⟨F,0,none⟩)] wx fun e w'=>e=.returned (.bool (gg n f))/\aa [] wx w'):=fun F m0 lab lv f es hg Hf wx q h fo=>zl b x T _ n H F m0 lab lv f es hg Hf wx (af.still hn q) ok h fo
 have HFK:Hid (∀m,nZ (bC T).2.sts m->qz (cP (aM (bC T).2.sts m))/\(cP (aM (bC T).2.sts m)).vars.length<=100000):=fun m fr=>DY T hT fr
 have HT:=(show Hid _ from hT);clear hn ok hT hr hR okr hlr;obtain⟨pb,HPB⟩:∃pb,Hid (ik n=pb):=⟨_,rfl⟩
 rw[HPB.out]at HPR;obtain⟨⟨c0,c2⟩,hbr,hgw,hx1⟩:=HS.out w (aa.refl _ _);go_enter Tryz.func10,Tryz.ntmps10
 go_upto_region 2 with (go_at_call 33;refine Calls.mono HPR.out ?_;rintro e2 w1 ⟨rfl,k1⟩)
 clear c0 c2 hbr hgw hx1;go_wp2
 go_loopg [4] nr (fun gk iv wr=>∃k:Nat,k<=nr/\gk=nr-k/\iv=.int .i64 k/\aa [] w wr)
 case atStart=>exact⟨0,by omega,rfl,rfl,k1⟩
 case round =>
  obtain⟨k,hk,hgk,rfl,hK⟩:=hrel;obtain⟨⟨c0,c2⟩,hbr,hgw,hx1⟩:=HS.out _ hK
  by_cases hlt:k<nr
  ·have hki:(k:Int)<(nr:Int):=by omega
   have hlt2:k<(bj T).length:=by rw[hnr.out];exact hlt
   obtain⟨m,SP⟩:=Fx T HT.out (List.getElem?_eq_getElem hlt2);have HSP:=(show Hid _ from SP);have HRk:Hid (∀wx,aa [] w wx->wx.cell? ⟨gr,k*6,none⟩=some (.string (bj T)[k].label)/\wx.cell? ⟨gr,k*6+1,none⟩=some (.int .i64 (bj T)[k].verdict)):=fun wx q=>HRW.out k hlt wx q
   obtain⟨d0,d1⟩:=HRk.out _ hK;clear SP;generalize hrr:(bj T)[k]=rw at *;clear hrr
   cases hv:(rw.verdict != 5)
   ·have hv5:rw.verdict=5:=by simpa using hv
    have HUE:=(show Hid _ from EI T HSP.out hv5);have HSD:=C2 T HT.out n HSP.out hv5;have HAX:Hid (∀a∈Bo (bC T).2.sts m,_):=fun a ha=>Gn T HT.out HSP.out hv5 ha
    have HFO1:Hid (∀wx,aa [] w wx->Calls Tryz.prog 17 #[.pointer (some ⟨b,0,none⟩),.string rw.label] wx fun e w'=>∃F lv es hg Hf,e=.returned (.tuple #[.pointer (some ⟨F,0,none⟩),.bool true])/\eJ w' F wx.heap.size rw.label lv (cP (aM (bC T).2.sts m)) es hg Hf/\aa [] wx w'):=fun wx q=>HFO.out rw.label m wx q HSP.out.find HSP.out.fr HSP.out.own
    have HUS1:=(show Hid _ from HUS.out rw.label);rw[HUE.out]at HUS1;simp only at HUS1;have HFK1:=(show Hid _ from HFK.out m HSP.out.fr);generalize hll:rw.label=lab at *
    go_upto_region 7 with (go_at_call 17;refine Calls.mono (HFO1.out _ hK) ?_;rintro e2 w4 ⟨F,lv,es,hg,Hf,rfl,hFm,k4⟩)
    have hK4:=hK.trans k4;have HFM:=(show Hid _ from hFm);have HHF:Hid (∀wx,aa [] w4 wx->Calls Tryz.prog 36 #[.pointer (some ⟨b,3,none⟩),.pointer (some ⟨F,0,none⟩),.slice none 0 0] wx fun e w'=>e=.returned (.bool (iL n (cP (aM (bC T).2.sts m)) (cP (aM (bC T).2.sts m)).vars.length []))/\aa [] wx w'):=fun wx q=>HHL.out F _ lab lv _ es hg Hf wx (hK4.trans q) (HFM.out.still q) HFK1.out
    have HIF0:Hid (∀wx,aa [] w4 wx->Calls Tryz.prog 38 #[.pointer (some ⟨b,3,none⟩),.pointer (some ⟨F,0,none⟩)] wx fun e w'=>e=.returned (.bool (gg n (cP (aM (bC T).2.sts m))))/\aa [] wx w'):=fun wx q=>HIL.out F _ lab lv _ es hg Hf wx (hK4.trans q) (HFM.out.still q) HFK1.out.1
    obtain⟨hs1,hs2⟩:=HSD;generalize iL n (cP (aM (bC T).2.sts m)) (cP (aM (bC T).2.sts m)).vars.length []=vH at *;generalize gg n (cP (aM (bC T).2.sts m))=vI at *;clear hFm HFM HFK1 HFO1 c0 c2 hbr hgw hx1 d0 d1 HUE hll;obtain⟨⟨c0,c2⟩,hbr,hgw,hx1⟩:=HS.out _ hK4;obtain⟨d0,d1⟩:=HRk.out _ hK4
    go_upto_region 9 with fail
    go_region_held3 (fun w'=>w'.cell? ⟨b,0,none⟩=some (.pointer (some ⟨x,0,none⟩))/\w'.cell? ⟨b,2,none⟩=some (.slice (some ⟨gr,0,none⟩) nr nr)/\w'.cell? ⟨gr,k*6,none⟩=some (.string lab)) (go_keep) ((go_at_call 34;refine Calls.mono (HUS1.out _ (by exact hK4.drew)) ?_;rintro e2 w5 ⟨b1,b2,rfl,x1,x2,-,-,-,k5⟩;obtain⟨⟨c0,c2⟩,hbr,hgw,hx1⟩:=HS.out _ (hK4.drew.trans k5);obtain⟨d0,d1⟩:=HRk.out _ (hK4.drew.trans k5)))
    have hK5:=hK4.drew.trans k5;have k45:aa [] w4 w5:=(aa.refl [] w4).drew.trans k5;have HIF:Hid (∀wx,aa [] w5 wx->Calls Tryz.prog 38 #[.pointer (some ⟨b,3,none⟩),.pointer (some ⟨F,0,none⟩)] wx fun e w'=>e=.returned (.bool vI)/\aa [] wx w'):=fun wx q=>HIF0.out wx (k45.trans q)
    have HHE:Hid (∀wx,aa [] w5 wx->Calls Tryz.prog 36 #[.pointer (some ⟨b,3,none⟩),.pointer (some ⟨F,0,none⟩),.slice none 0 0] wx fun e w'=>e=.returned (.bool vH)/\aa [] wx w'):=fun wx q=>HHF.out wx (k45.trans q)
    obtain⟨hA,EhA⟩:∃hA:Nat->Bool,Hid (∀a,hA a=iL n (cP (aM (bC T).2.sts a)) (cP (aM (bC T).2.sts a)).vars.length []):=⟨fun a=>_,fun a=>rfl⟩
    obtain⟨kA,EkA⟩:∃kA:Nat->Bool,Hid (∀a,kA a=fO n (cP (aM (bC T).2.sts a))):=⟨fun a=>_,fun a=>rfl⟩
    have HX1:Hid (qC w5 b1 ((Bo (bC T).2.sts m).map (eS (bC T).2.sts))):=x1
    have HNA0:Hid ((Bo (bC T).2.sts m).length<=10000):=by
     show _<=_
     have:=List.length_filter_le (E7 (bC T).2.sts (aK (bC T).2.sts (bC T).2.sts.length) m) (List.range (bC T).2.sts.length);rw[List.length_range]at this;exact Nat.le_trans this HLEN.out
    generalize Bo (bC T).2.sts m=ax at *
    have HSD1:Hid ((pb&&ax.all hA)=true->vH=true):=fun hh=>by
     rw[Bool.and_eq_true]at hh;exact hs1 (HPB.out.trans hh.1) (fun a ha=>by rw[<-EhA.out];exact List.all_eq_true.1 hh.2 a ha)
    have HSD2:Hid (ax.all kA=true->vI=true):=fun hh=>hs2 (fun a ha=>by rw[<-EkA.out];exact List.all_eq_true.1 hh a ha)
    clear x1 x2 hs1 hs2 HHF HIF0 HUS1 HUS HSP HIL c0 c2 hbr hgw hx1 d0 d1 k45 k5;obtain⟨AX,HAX1⟩:∃AX,Hid (FN b1=AX):=⟨_,rfl⟩
    rw[HAX1.out];obtain⟨na,HNA⟩:∃na,Hid (ax.length=na):=⟨_,rfl⟩
    rw[HNA.out];have hna:na<=10000:=by rw[<-HNA.out];exact HNA0.out
    go_wp2
    go_loopg [10,11,12] na (fun gk2 av lv2 kv ws=>∃q:Nat,q<=na/\gk2=na-q/\av=.bool (pb&&(ax.take q).all hA)/\lv2=.bool ((ax.take q).all kA)/\kv=.int .i64 q/\aa [] w5 ws)
    case atStart=>exact⟨0,by omega,rfl,by simp,by simp,rfl,aa.refl _ _⟩
    case round =>
     obtain⟨q,hq,hgq,rfl,rfl,rfl,hKs⟩:=hrel
     by_cases hql:q<na
     ·have hqi:(q:Int)<(na:Int):=by omega
      have hqx:q<ax.length:=by rw[HNA.out];exact hql
      obtain⟨ga,eA,HCA⟩:=Gv HX1.out (k:=q) (by rw[List.length_map];exact hqx);obtain rfl:AX=some ⟨ga,0,none⟩:=HAX1.out.symm.trans eA;obtain⟨-,-,j,r',hp1,hp2,hp3,hp4,hp5,hp6⟩:=HAX.out ax[q] (List.getElem_mem hqx);obtain⟨hjl,hjr⟩:=List.getElem?_eq_some_iff.1 hp3;have hjn:j<nr:=by rw[<-hnr.out];exact hjl
      have HTA:Hid ((pb&&(ax.take (q+1)).all hA)=((pb&&(ax.take q).all hA)&&hA ax[q])):=by show _=_;rw[jZ _ _ _ hqx,Bool.and_assoc]
      have HTK:=(show Hid _ from jZ kA ax q hqx)
      have HC2:Hid (∀wx,aa [] w5 wx->ga<wx.heap.size/\wx.cell? ⟨ga,q,none⟩=some (.string (eS (bC T).2.sts ax[q]))):=fun wx p=>by
       have:=HCA wx p;rw[List.getElem_map]at this;exact this
      have HRO1:=(show Hid _ from HRO.out (eS (bC T).2.sts ax[q]));rw[hp1,show bQ (some j)=(j:Int) from rfl]at HRO1
      have HRj:Hid (∀wx,aa [] w wx->wx.cell? ⟨gr,j*6+1,none⟩=some (.int .i64 1)):=fun wx p=>by
       have:=(HRW.out j hjn wx p).2;rw[hjr,hp4]at this;exact this
      have HFOa:Hid (∀wx,aa [] w wx->Calls Tryz.prog 17 #[.pointer (some ⟨b,0,none⟩),.string (eS (bC T).2.sts ax[q])] wx fun e w'=>∃F lv es hg Hf,e=.returned (.tuple #[.pointer (some ⟨F,0,none⟩),.bool true])/\eJ w' F wx.heap.size (eS (bC T).2.sts ax[q]) lv (cP (aM (bC T).2.sts ax[q])) es hg Hf/\aa [] wx w'):=fun wx p=>by
       rw[<-hp5];exact HFO.out r'.label ax[q] wx p hp6.find hp6.fr hp6.own
      have HFKa:=(show Hid _ from HFK.out ax[q] hp6.fr);have HEA:=(show Hid _ from EhA.out ax[q]);have HEK:=(show Hid _ from EkA.out ax[q]);clear hp1 hp3 hp4 hp5 hp6 hjr hjl HCA;generalize eS (bC T).2.sts ax[q]=la at *;generalize cP (aM (bC T).2.sts ax[q])=fa at *;generalize hA ax[q]=vA at *;generalize kA ax[q]=vK at *;have hji:(j:Int)<(nr:Int):=by omega
      have hjk:(j:Int)<(k:Int):=by omega
      have hj0:(0:Int)<=(j:Int):=by omega
      obtain⟨gaw,cga⟩:=HC2.out _ hKs;have hKws:=hK5.trans hKs;obtain⟨⟨c0,c2⟩,hbr,hgw,hx1⟩:=HS.out _ hKws;have dj:=HRj.out _ hKws
      go_upto_region 18 with (go_at_call 35;refine Calls.mono (HRO1.out _ hKws) ?_;rintro e2 w6 ⟨rfl,hw6⟩;rw[hw6];clear hw6)
      go_upto_region 23 with (go_at_call 17;refine Calls.mono (HFOa.out _ hKws) ?_;rintro e2 w7 ⟨Fa,lva,esa,hga,Hfa,rfl,hFma,k7⟩)
      have hK7:aa [] w5 w7:=hKs.trans k7;have hK7w:=hK5.trans hK7
      have HKA:Hid (∀wx,aa [] w7 wx->Calls Tryz.prog 37 #[.pointer (some ⟨b,3,none⟩),.pointer (some ⟨Fa,0,none⟩)] wx fun e w'=>e=.returned (.bool vK)/\aa [] wx w'):=fun wx p=>by
       rw[HEK.out];exact HKL.out Fa _ la lva fa esa hga Hfa wx (hK7w.trans p) (hFma.still p) HFKa.out.1
      have HHA:Hid (Calls Tryz.prog 36 #[.pointer (some ⟨b,3,none⟩),.pointer (some ⟨Fa,0,none⟩),.slice none 0 0] w7 fun e w'=>e=.returned (.bool vA)/\aa [] w7 w'):=by
       rw[HEA.out];exact HHL.out Fa _ la lva fa esa hga Hfa w7 hK7w hFma HFKa.out
      clear hFma c0 c2 hbr hgw hx1 dj gaw cga HRO1 HFOa;obtain⟨⟨c0,c2⟩,hbr,hgw,hx1⟩:=HS.out _ hK7w;clear c0 c2 hgw hx1
      cases hab:(pb&&(ax.take q).all hA)
      ·have kA8:aa [] w7 w7:=aa.refl _ _
       go_upto_region 26 with (go_at_call 37;refine Calls.mono (HKA.out _ kA8) ?_;rintro e2 w9 ⟨rfl,k9⟩)
       have hK9:aa [] w5 w9:=(hK7.trans kA8).trans k9
       cases hl0:(ax.take q).all kA
       ·go_wp2
        go_roundg (na-(q+1))
        case measure=>omega
        case rel=>exact⟨q+1,by omega,rfl,by rw[HTA.out,hab];rfl,by rw[HTK.out,hl0];rfl,by go_num,hK9⟩
       ·go_wp2
        go_roundg (na-(q+1))
        case measure=>omega
        case rel=>exact⟨q+1,by omega,rfl,by rw[HTA.out,hab];rfl,by rw[HTK.out,hl0];rfl,by go_num,hK9⟩
      ·go_upto_region 25 with (go_at_call 36;refine Calls.mono HHA.out ?_;rintro e2 w8 ⟨rfl,kA8⟩)
       have hb8:=Nat.lt_of_lt_of_le hbr kA8.size
       go_upto_region 26 with (go_at_call 37;refine Calls.mono (HKA.out _ kA8) ?_;rintro e2 w9 ⟨rfl,k9⟩)
       have hK9:aa [] w5 w9:=(hK7.trans kA8).trans k9
       cases hl0:(ax.take q).all kA
       ·go_wp2
        go_roundg (na-(q+1))
        case measure=>omega
        case rel=>exact⟨q+1,by omega,rfl,by rw[HTA.out,hab];rfl,by rw[HTK.out,hl0];rfl,by go_num,hK9⟩
       ·go_wp2
        go_roundg (na-(q+1))
        case measure=>omega
        case rel=>exact⟨q+1,by omega,rfl,by rw[HTA.out,hab];rfl,by rw[HTK.out,hl0];rfl,by go_num,hK9⟩
     ·have hqi:¬(q:Int)<(na:Int):=by omega
      have hqe:ax.take q=ax:=List.take_of_length_le (by have:=HNA.out;omega);rw[hqe];have hb9:b<_:=(HS.out _ (hK5.trans hKs)).2.1
      cases hAA:(pb&&ax.all hA)
      ·have hKe:=hKs
       go_upto_region 31 with fail
       go_upto_region 32 with (go_at_call 38;refine Calls.mono (HIF.out _ hKe) ?_;rintro e2 w10 ⟨rfl,k10⟩)
       have hK10:aa [] w w10:=(hK5.trans hKe).trans k10
       cases hLL:ax.all kA
       ·go_wp2
        go_roundg (nr-(k+1))
        case measure=>omega
        case rel=>exact⟨k+1,by omega,rfl,by go_num,hK10⟩
       ·have HI:=(show Hid _ from HSD2.out hLL)
        rw[HI.out];go_wp2
        go_roundg (nr-(k+1))
        case measure=>omega
        case rel=>exact⟨k+1,by omega,rfl,by go_num,hK10⟩
      ·have HV:=(show Hid _ from HSD1.out hAA)
       go_upto_region 29 with (go_at_call 36;refine Calls.mono (HHE.out _ hKs) ?_;rintro e2 w8 ⟨rfl,kA8⟩)
       have hKe:=hKs.trans kA8;have hb8:=Nat.lt_of_lt_of_le hb9 kA8.size;rw[HV.out]
       go_upto_region 31 with fail
       go_upto_region 32 with (go_at_call 38;refine Calls.mono (HIF.out _ hKe) ?_;rintro e2 w10 ⟨rfl,k10⟩)
       have hK10:aa [] w w10:=(hK5.trans hKe).trans k10
       cases hLL:ax.all kA
       ·go_wp2
        go_roundg (nr-(k+1))
        case measure=>omega
        case rel=>exact⟨k+1,by omega,rfl,by go_num,hK10⟩
       ·have HI:=(show Hid _ from HSD2.out hLL)
        rw[HI.out];go_wp2
        go_roundg (nr-(k+1))
        case measure=>omega
        case rel=>exact⟨k+1,by omega,rfl,by go_num,hK10⟩
   ·go_wp2
    go_roundg (nr-(k+1))
    case measure=>omega
    case rel=>exact⟨k+1,by omega,rfl,by go_num,hK⟩
  ·have hki:¬(k:Int)<(nr:Int):=by omega
   go_wp2;go_ret;exact⟨rfl,hK⟩
end Go.Proofs.YtlbhbocbakijbaaGreat
