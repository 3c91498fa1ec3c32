import Derived.Test.YtpddjjabfbfifaaGreatG24
namespace Go.Proofs.YtpddjjabfbfifaaGreat
open Go.RowKit
set_option maxHeartbeats 40000000
theorem bX{P:Program}(w:World){ops:Array Oper}{rest:List Oper}{o:Oper}{a:Act}{Q:Exit->Act->World->Prop}
  (hg:o.guard=none) (s x:Operand) (t:TypeId) (hop:o.op=Op.call { callee:=Callee.builtin Builtin.append,args:=#[s,x],argTypes:=#[t,t] })
  (i:TypeInfo) (z:Value) (bytes:Nat) (h:Hd) (r:dK) (news:List Value) (h1:P.underlying t=some (.slice r.e)) (h2:P.info? r.e=some i) (h3:i.zero=some z) (h4:i.size=r.size) (h5:i.bytes=bytes) (h6:z.cells.size=r.size) (h7:0<r.size)
  (hs:a.eval s=.slice h.ao r.n h.cap) (hown:aA w h r) (hL:r.n<=900000000) (hb:bytes<=1000) (hx:a.eval x=.slice (some ⟨w.heap.size,0,none⟩) 1 1) (hn:news.length=r.size) (h1c:∀u∈news,u.oneCell'=true)
  (hK:∀h' w',aA w' h' ⟨r.e,r.size,r.n+1,r.xs++news⟩->bh w w' h h'->wpList P ops Q rest (a.put o.dst (.slice h'.ao (r.n+1) h'.cap)) w') :
  wpList P ops Q (o :: rest) a (w.alloc (.cells news.toArray r.e)):=by
 have k1:ab [] w (w.alloc (.cells news.toArray r.e)):=(ab.refl [] _).alloc _;have hk:(w.alloc (.cells news.toArray r.e)).heap[w.heap.size]?=some (.cells news.toArray r.e (0,0)):=heap_alloc_new _ _;refine eO _ hg s x t hop i z bytes h r h1 h2 h3 h4 h5 h6 h7 hs (hown.still k1) (some ⟨w.heap.size,0,none⟩) 1 1 news hx (by omega) (fun e=>by cases e) ?_ h1c (by omega) hb ?_
 ·intro ad e j u hj
  cases e
  rw[bK,aa hk];simpa using hj
 ·intro h' w' o' g'
  exact hK h' w' o' ((bh.still k1).trans g')
def mv(w:World)(p:jD)(e:Ending)(w':World):Prop:=∃h',e=.returned (Lu p h')/\ir w w' h' (dN p.st)
theorem fF{w w':World}{p:jD}{e:Ending}(hp:p.st=[])(he:e=.returned (.agg #[.slice none 0 0,.int .i64 p.why,.string p.file,.int .i64 p.line,.int .i64 p.col]))(k:ab [] w w'):mv w p e w' :=
 ⟨⟨none,0⟩,by rw[he,Lu,hp];rfl,by rw[hp];exact⟨World.ownsRow_nil _ _ _ _,(by intro k hk;cases hk),k⟩⟩
theorem aA.aside{w:World}{h:Hd}{r:dK}{B:Nat}(o:aA w h r)(hB:∀k,h.blk=some k->k≠B)(i:Nat)(v:Value):aA (w.setCell ⟨B,i,none⟩ v) h r:=by
 have k:ab [B] w (w.setCell ⟨B,i,none⟩ v):=(ab.refl _ _).setCell (Or.inl (by simp)) _;exact o.moved (fun q hq=>k.block q (o.lt hq) (by simp;exact hB q hq))
theorem Dv{α:Type}(L:List α)(k:Nat)(h:k<L.length):L.drop k=L[k] :: L.drop (k+1):=List.drop_eq_getElem_cons h
set_option maxRecDepth 100000 in
theorem E7(b n:Nat)(T:List Tk)(aoT:Option Addr)(cT:Nat)(S:List Sm)(aoS:Option Addr)(cS:Nat)(refs:List Nat)(aoR:Option Addr)(cR:Nat)(L:List Lt)(aoL:Option Addr)(cL:Nat)(en:Lt)(w:World)(hD:eW w b T aoT cT S aoS cS)(ok:mx T S n)(hR:oX w aoR refs)(hr:∀r∈refs,r<n)(hrl:refs.length<=30000)(hL:cG w aoL 4 Ls L)(hLl:L.length<=20000000)(hLc:∀l∈L,0<=l.c/\l.c<256) :
  Calls Tryz.prog 176 #[.pointer (some ⟨b,0,none⟩),.slice aoR refs.length cR,.slice aoL L.length cL,.agg #[.string en.file,.int .i64 en.line,.int .i64 en.col]] w fun e w'=>mv w (iY T S refs en L) e w':=by
 have HD:=(show Hid _ from hD);have HOK:=(show Hid _ from ok);have HR:=(show Hid _ from hR);have HL:=(show Hid _ from hL);have HLC:=(show Hid _ from hLc);have HRR:=(show Hid _ from hr);obtain⟨iN,hiN,hzN0,hzN1,hzN2⟩:=info_parts xd;obtain⟨iP,hiP,hzP0,hzP1,hzP2⟩:=info_parts Gx
 have S0:Hid (Cn w (((w.alloc (.cells #[.string en.file,.int .i64 en.line,.int .i64 en.col] 36)).alloc (.cells #[.slice none 0 0,.int .i64 0,.string ⟨#[]⟩,.int .i64 0,.int .i64 0] 122)).alloc (.cells #[.slice none 0 0,.int .i64 0,.string ⟨#[]⟩,.int .i64 0,.int .i64 0] 122)) en [] ⟨none,0⟩ [] ⟨none,0⟩):=by
  obtain⟨W1,hW1⟩:∃W1,W1=w.alloc (.cells #[.string en.file,.int .i64 en.line,.int .i64 en.col] 36):=⟨_,rfl⟩
  obtain⟨W2,hW2⟩:∃W2,W2=W1.alloc (.cells #[.slice none 0 0,.int .i64 0,.string ⟨#[]⟩,.int .i64 0,.int .i64 0] 122):=⟨_,rfl⟩
  have z1:W1.heap.size=w.heap.size+1:=by rw[hW1];simp
  have z2:W2.heap.size=w.heap.size+2:=by rw[hW2];simp[z1]
  have k1:ab [] W1 W2:=by rw[hW2];exact(ab.refl [] _).alloc _
  have k0:ab [] w W1:=by rw[hW1];exact(ab.refl [] _).alloc _
  have k2:ab [] W2 (W2.alloc (.cells #[.slice none 0 0,.int .i64 0,.string ⟨#[]⟩,.int .i64 0,.int .i64 0] 122)):=(ab.refl [] _).alloc _;have e0:W1.heap[w.heap.size]?=some (.cells #[.string en.file,.int .i64 en.line,.int .i64 en.col] 36 (0,0)):=by rw[hW1];exact heap_alloc_new _ _
  have e1:W2.heap[w.heap.size+1]?=some (.cells #[.slice none 0 0,.int .i64 0,.string ⟨#[]⟩,.int .i64 0,.int .i64 0] 122 (0,0)):=by rw[hW2,<-z1];exact heap_alloc_new _ _
  show Cn _ _ _ _ _ _ _
  rw[<-hW1,<-hW2];exact⟨k2.get (k1.get e0 (by simp)) (by simp),k2.get e1 (by simp),by rw[<-z2];exact heap_alloc_new _ _,World.ownsRow_nil _ _ _ _,World.ownsRow_nil _ _ _ _,(by intro k hk;cases hk),(by intro k hk;cases hk),(by intro k hk;cases hk),(k0.trans k1).trans k2⟩
 clear hD ok hR hL hLc hr;go_enter Tryz.func176,Tryz.ntmps176;go_wp2
 go_loopg [10,11,12,13] L.length (fun g tg nm fr i wr=>∃(k:Nat) (h:Hd) (P:List cQ) (ht:Hd) (tags:List Nat) (num:ByteArray) (f:Bool),k<=L.length/\g=L.length-k/\tg=.slice ht.ao tags.length ht.cap/\nm=.string num/\fr=.bool f/\i=.int .i64 k/\(P.length<=k/\tags.length<=k/\num.size<=k)/\Hid (f=true->0<P.length)/\Hid (lM T S refs en (L.drop k) P tags num f=iY T S refs en L)/\Hid (Cn w wr en P h tags ht))
 case atStart=>exact⟨0,⟨none,0⟩,[],⟨none,0⟩,[],⟨#[]⟩,false,by omega,rfl,rfl,rfl,rfl,rfl,⟨Nat.le_refl _,Nat.le_refl _,Nat.le_refl _⟩,(fun h=>by cases h),rfl,S0⟩
 case round =>
  obtain⟨k,h,P,ht,tags,num,f,hk,hg,rfl,rfl,rfl,rfl,⟨hPl,htl,hnl⟩,HF,HE,HW⟩:=hrel;obtain⟨⟨ce0,ce1,ce2⟩,⟨cr0,cr1,cr2,cr3,cr4⟩,⟨cp0,cp1,cp2,cp3,cp4⟩,⟨fr0,J0,J1,J2,J3⟩,fp0,hzw⟩:=HW.out.cells;have HKW:=(show Hid _ from HW.out.kept)
  by_cases hlt:k<L.length
  ·have hki:(k:Int)<(L.length:Int):=by omega
   obtain⟨gL,rfl,hgL,cL0⟩:=(cG.still HL.out HKW.out) k L[k] (List.getElem?_eq_getElem hlt);have l0:wr.cell? ⟨gL,k*4,none⟩=some (.int .u8 L[k].c):=cL0 0 _ rfl;have l1:=cL0 1 _ rfl;have l2:=cL0 2 _ rfl;have l3:=cL0 3 _ rfl
   have HLl:Hid (∀w',ab [] w w'->gL<w'.heap.size/\w'.cell? ⟨gL,k*4+1,none⟩=some (.string L[k].file)/\w'.cell? ⟨gL,k*4+2,none⟩=some (.int .i64 L[k].line)/\w'.cell? ⟨gL,k*4+3,none⟩=some (.int .i64 L[k].col)):=fun w' kw=>by
    obtain⟨g2,e2,h2,c2⟩:=(cG.still HL.out kw) k L[k] (List.getElem?_eq_getElem hlt)
    cases e2
    exact⟨h2,c2 1 _ rfl,c2 2 _ rfl,c2 3 _ rfl⟩
   have hLc:=HLC.out L[k] (List.getElem_mem hlt);have HDr:=(show Hid _ from Dv L k hlt);rw[HDr.out,lM]at HE;clear cL0 HDr;generalize L[k]=l at *;obtain⟨c,lf,ll,lc⟩:=l;simp only at l0 l1 l2 l3 hLc HE HLl;have hcv:=fun wx=>IL c hLc wx
   obtain⟨hc0,hc1⟩:=hLc;have hcs:(Aa c).size=1:=rfl
   -- a fault at this letter
   have HBX:Hid (∀(w2:World) (e:Ending),ab [] w w2->e=.returned (.agg #[.slice none 0 0,.int .i64 4,.string lf,.int .i64 ll,.int .i64 lc])->iY T S refs en L=lP 4 ⟨c,lf,ll,lc⟩->mv w (iY T S refs en L) e w2):=fun w2 e k2 he hx=>by rw[hx];exact fF rfl he k2
   by_cases a1:85<=c/\c<=89
   ·rw[if_pos a1]at HE
    obtain⟨a1,a2⟩:=a1;have HKA:=(show Hid _ from(ab.refl [] wr).alloc (.cells #[.int .u8 c] 5));have HWA:=(show Hid _ from HW.out.still HKA.out);have Hsz:Hid ((num++Aa c).size=num.size+1):=by show _=_;rw[ByteArray.size_append,hcs]
    go_wp2
    go_roundg (L.length-(k+1))
    case measure=>omega
    case rel=>exact⟨k+1,h,P,ht,tags,num++Aa c,false,by omega,rfl,rfl,rfl,rfl,by go_num,⟨by omega,by omega,by rw[Hsz.out];omega⟩,(fun h=>by cases h),HE,HWA⟩
   ·rw[if_neg a1]at HE
    by_cases b1:65<=c/\c<=84
    ·rw[if_pos b1]at HE
     obtain⟨b1,b2⟩:=b1;have a2:¬85<=c:=by omega
     have HNU:Hid (∀wx,Calls Tryz.prog 213 #[.string (num++Aa c),.int .i64 ((refs.length:Int)+(tags.length:Int))] wx fun e w'=>e=.returned (.int .i64 (gG (num++Aa c) (refs.length+tags.length):Nat))/\ab [] wx w'):=fun wx=>by
      have:=Bd (num++Aa c) (refs.length+tags.length) wx (by omega);rw[Int.natCast_add]at this;exact this
     have hnle:=vY (num++Aa c) (refs.length+tags.length);obtain⟨nn,Hnn⟩:∃nn,Hid (gG (num++Aa c) (refs.length+tags.length)=nn):=⟨_,rfl⟩
     rw[Hnn.out]at HNU HE hnle;have hsz:num.size+1<=9223372036854775807:=by omega
     go_upto_region 15 with (go_at_call 213;refine(HNU.out _).mono ?_;rintro e w1 ⟨rfl,k1⟩)
     have HK1:=(show Hid _ from((ab.refl [] wr).alloc _).trans k1);have HW1:=(show Hid _ from HW.out.still HK1.out);have HKW1:=(show Hid _ from HKW.out.trans HK1.out);clear k1 ce0 ce1 ce2 cr0 cr1 cr2 cr3 cr4 cp0 cp1 cp2 cp3 cp4 fr0 J0 J1 J2 J3 fp0 hzw l0 l1 l2 l3 hgL HNU;obtain⟨⟨ce0,ce1,ce2⟩,⟨cr0,cr1,cr2,cr3,cr4⟩,⟨cp0,cp1,cp2,cp3,cp4⟩,⟨fr0,J0,J1,J2,J3⟩,fp0,hzw⟩:=HW1.out.cells;obtain⟨hgL,l1,l2,l3⟩:=HLl.out w1 HKW1.out
     by_cases n0:nn=0
     ·rw[if_pos n0]at HE
      subst n0;have HX:Hid (iY T S refs en L=lP 5 ⟨c,lf,ll,lc⟩):=HE.out.symm;go_wp2;obtain⟨x0,x1,x2,x3,x4⟩:=eC HW1.out.r (.slice none 0 0) (.int .i64 5) (.string lf) (.int .i64 ll) (.int .i64 lc);exact bodyPost_ret (v:=.agg #[.slice none 0 0,.int .i64 5,.string lf,.int .i64 ll,.int .i64 lc]) (by simp[results,Tryz.results176,go_sem,x0,x1,x2,x3,x4]) rfl (by rw[HX.out];exact fF rfl rfl (((((HKW1.out.setCell (Or.inr (by simp)) _).setCell (Or.inr (by simp)) _).setCell (Or.inr (by simp)) _).setCell (Or.inr (by simp)) _).setCell (Or.inr (by simp)) _))
     ·rw[if_neg n0]at HE
      have n0i:((nn:Int)==0)=false:=by simpa using n0
      by_cases n1:nn<=refs.length
      ·have n1i:(nn:Int)<=(refs.length:Int):=by omega
       obtain⟨q,rfl⟩:∃q,nn=q+1:=⟨nn-1,by omega⟩
       have hqr:q<refs.length:=by omega
       have hqi:(q:Int)<(refs.length:Int):=by omega
       have HSO:Hid (pB T S refs tags (q+1) ⟨c,lf,ll,lc⟩=⟨(refs[q]:Nat),0,gx T S (refs[q]:Nat),lf,ll,lc⟩):=by
        show _=_
        unfold pB;rw[if_pos n1,Nat.add_sub_cancel,List.getD_eq_getElem?_getD,List.getElem?_eq_getElem hqr];rfl
       have hrn:=HRR.out refs[q] (List.getElem_mem hqr);obtain⟨gR,rfl,hgR,cq⟩:=(oX.still HR.out HKW1.out) q refs[q] (List.getElem?_eq_getElem hqr);rw[HSO.out]at HE;have HND:Hid (∀wx,ab [] w wx->Calls Tryz.prog 129 #[.pointer (some ⟨b,0,none⟩),.int .i64 (refs[q]:Nat)] wx fun e w'=>e=.returned (.int .i64 (gx T S (refs[q]:Nat):Nat))/\ab [] wx w'):=fun wx kx=>vX b n refs[q] T aoT cT S aoS cS wx (eW.still HD.out kx) HOK.out hrn
       clear HSO;generalize refs[q]=rf at *;generalize gx T S (rf:Nat)=nd at *;obtain⟨W2,HWe⟩:∃W2,Hid (w1.alloc (.cells #[.int .i64 (rf:Int),.int .i64 0,.int .i64 0,.string lf,.int .i64 ll,.int .i64 lc] 162)=W2):=⟨_,rfl⟩
       have kW2:ab [] w1 W2:=by rw[<-HWe.out];exact(ab.refl [] _).alloc _
       have B2:W2.heap[w1.heap.size]?=some (.cells #[.int .i64 (rf:Int),.int .i64 0,.int .i64 0,.string lf,.int .i64 ll,.int .i64 lc] 162 (0,0)):=by rw[<-HWe.out];exact heap_alloc_new _ _
       have HND2:=(show Hid _ from HND.out W2 (HKW1.out.trans kW2));have s0:W2.cell? ⟨w1.heap.size,0,none⟩=some (.int .i64 (rf:Int)):=by rw[aa B2];rfl
       have z2:=ae B2
       go_upto_region 20 with fail
       rw[HWe.out]
       go_upto_region 22 with (go_at_call 129;refine Calls.mono HND2.out ?_;rintro e w2 ⟨rfl,k2⟩;have B3:=k2.get B2 (by simp);have f3:=ak B3 2;have c3:w2.cell? ⟨w1.heap.size,2,none⟩=some (.int .i64 0):=(by rw[aa B3];rfl);have z3:=ae B3)
       obtain⟨W3,HW3e⟩:∃W3,Hid (w2.setCell ⟨w1.heap.size,2,none⟩ (.int .i64 (nd:Int))=W3):=⟨_,rfl⟩
       have kW3:ab [] w1 W3:=by rw[<-HW3e.out];exact(kW2.trans k2).setCell (Or.inr (by simp)) _
       have B4:W3.heap[w1.heap.size]?=some (.cells #[.int .i64 (rf:Int),.int .i64 0,.int .i64 (nd:Int),.string lf,.int .i64 ll,.int .i64 lc] 162 (0,0)):=by rw[<-HW3e.out,ah B3];rfl
       have HW3:=(show Hid _ from HW1.out.still kW3);rw[HW3e.out];clear ce0 ce1 ce2 cr0 cr1 cr2 cr3 cr4 cp0 cp1 cp2 cp3 cp4 fr0 J0 J1 J2 J3 fp0 hzw;clear B2 B3 kW2 k2 kW3 s0 z2 f3 c3 z3 HW3e HWe HND2 HND cq;obtain⟨⟨ce0,ce1,ce2⟩,⟨cr0,cr1,cr2,cr3,cr4⟩,⟨cp0,cp1,cp2,cp3,cp4⟩,⟨fr0,J0,J1,J2,J3⟩,fp0,hzw⟩:=HW3.out.cells;have t0:W3.cell? ⟨w1.heap.size,0,none⟩=some (.int .i64 (rf:Int)):=by rw[aa B4];rfl
       have t1:W3.cell? ⟨w1.heap.size,1,none⟩=some (.int .i64 0):=by rw[aa B4];rfl
       have t2:W3.cell? ⟨w1.heap.size,2,none⟩=some (.int .i64 (nd:Int)):=by rw[aa B4];rfl
       have t3:W3.cell? ⟨w1.heap.size,3,none⟩=some (.string lf):=by rw[aa B4];rfl
       have t4:W3.cell? ⟨w1.heap.size,4,none⟩=some (.int .i64 ll):=by rw[aa B4];rfl
       have t5:W3.cell? ⟨w1.heap.size,5,none⟩=some (.int .i64 lc):=by rw[aa B4];rfl
       have t6:=ae B4;have hOw3:=HW3.out.op;have hPb:(dN P).n<=900000000:=by show P.length<=_;omega
       go_wp2_with (at_builtin;refine bX _ rfl (.tmp 103) (.tmp 105) 120 rfl iP (.agg #[.int .i64 0,.int .i64 0,.int .i64 0,.string ⟨#[]⟩,.int .i64 0,.int .i64 0]) 56 h (dN P) [.int .i64 (rf:Int),.int .i64 0,.int .i64 (nd:Int),.string lf,.int .i64 ll,.int .i64 lc] Tryz.underlying120 hiP hzP0 hzP1 hzP2 rfl (show 0<6 by omega) rfl hOw3 hPb (by omega) rfl rfl (qt (⟨(rf:Int),0,nd,lf,ll,lc⟩:cQ)) ?_;intro h5 w5 hw5 hg5;rw[show([.int .i64 (rf:Int),.int .i64 0,.int .i64 (nd:Int),.string lf,.int .i64 ll,.int .i64 lc]:List Value)=j5 (⟨(rf:Int),0,nd,lf,ll,lc⟩:cQ) from rfl,lq]at hw5;have HA:=(show Hid _ from HW3.out.addP (m:=(dN P).n+1) hg5 hw5 (by simp[dN,kq]));have p5:=hg5.kept.get HW3.out.p (fun hq=>by have:=HW3.out.fp _ (aK hq);omega);have f5:=ak p5 0;have c5:w5.cell? ⟨w.heap.size+2,0,none⟩=some (.slice h.ao P.length h.cap):=(by rw[aa p5];rfl);have z5:=ae p5;clear hw5 hg5 p5)
       go_roundg (L.length-(k+1))
       case measure=>omega
       case rel=>exact⟨k+1,h5,P++[⟨(rf:Int),0,nd,lf,ll,lc⟩],ht,tags,⟨#[]⟩,true,by omega,rfl,rfl,rfl,rfl,by go_num,⟨by simp;omega,by omega,Nat.zero_le _⟩,(fun _=>by simp),HE,HA⟩
      ·have n1i:¬(nn:Int)<=(refs.length:Int):=by omega
       obtain⟨q,Hq⟩:∃q,Hid (nn-refs.length-1=q):=⟨_,rfl⟩
       have hqt:q<tags.length:=by have:=Hq.out;omega
       have i1:IntKind.i64.wrap ((nn:Int)-(refs.length:Int))=(nn:Int)-(refs.length:Int):=by rw[IntKind.wrap_i64];omega
       have i2:IntKind.i64.wrap ((nn:Int)-(refs.length:Int)-1)=(nn:Int)-(refs.length:Int)-1:=by rw[IntKind.wrap_i64];omega
       have i3:((nn:Int)-(refs.length:Int)-1).toNat=q:=by have:=Hq.out;omega
       have i4:(0:Int)<=(nn:Int)-(refs.length:Int)-1:=by omega
       have i5:(nn:Int)-(refs.length:Int)-1<(tags.length:Int):=by omega
       have HSO:Hid (pB T S refs tags nn ⟨c,lf,ll,lc⟩=⟨-2,tags[q],0,lf,ll,lc⟩):=by
        show _=_
        unfold pB;rw[if_neg n1,Hq.out,List.getD_eq_getElem?_getD,List.getElem?_eq_getElem hqt];rfl
       obtain⟨gt,egt,hgt,cq⟩:=HW1.out.ot.srcN q tags[q] (List.getElem?_eq_getElem hqt);rw[HSO.out]at HE;clear HSO;generalize tags[q]=tg at *;obtain⟨W3,HW3e⟩:∃W3,Hid (w1.alloc (.cells #[.int .i64 (-2),.int .i64 (tg:Int),.int .i64 0,.string lf,.int .i64 ll,.int .i64 lc] 162)=W3):=⟨_,rfl⟩
       have kW3:ab [] w1 W3:=by rw[<-HW3e.out];exact(ab.refl [] _).alloc _
       have B4:W3.heap[w1.heap.size]?=some (.cells #[.int .i64 (-2),.int .i64 (tg:Int),.int .i64 0,.string lf,.int .i64 ll,.int .i64 lc] 162 (0,0)):=by rw[<-HW3e.out];exact heap_alloc_new _ _
       have HW3:=(show Hid _ from HW1.out.still kW3);rw[egt]
       go_upto_region 22 with fail
       rw[HW3e.out];clear ce0 ce1 ce2 cr0 cr1 cr2 cr3 cr4 cp0 cp1 cp2 cp3 cp4 fr0 J0 J1 J2 J3 fp0 hzw;clear kW3 HW3e cq i1 i2 i3 i4 i5;obtain⟨⟨ce0,ce1,ce2⟩,⟨cr0,cr1,cr2,cr3,cr4⟩,⟨cp0,cp1,cp2,cp3,cp4⟩,⟨fr0,J0,J1,J2,J3⟩,fp0,hzw⟩:=HW3.out.cells;have t0:W3.cell? ⟨w1.heap.size,0,none⟩=some (.int .i64 (-2)):=by rw[aa B4];rfl
       have t1:W3.cell? ⟨w1.heap.size,1,none⟩=some (.int .i64 (tg:Int)):=by rw[aa B4];rfl
       have t2:W3.cell? ⟨w1.heap.size,2,none⟩=some (.int .i64 0):=by rw[aa B4];rfl
       have t3:W3.cell? ⟨w1.heap.size,3,none⟩=some (.string lf):=by rw[aa B4];rfl
       have t4:W3.cell? ⟨w1.heap.size,4,none⟩=some (.int .i64 ll):=by rw[aa B4];rfl
       have t5:W3.cell? ⟨w1.heap.size,5,none⟩=some (.int .i64 lc):=by rw[aa B4];rfl
       have t6:=ae B4;have hOw3:=HW3.out.op;have hPb:(dN P).n<=900000000:=by show P.length<=_;omega
       go_wp2_with (at_builtin;refine bX _ rfl (.tmp 103) (.tmp 105) 120 rfl iP (.agg #[.int .i64 0,.int .i64 0,.int .i64 0,.string ⟨#[]⟩,.int .i64 0,.int .i64 0]) 56 h (dN P) [.int .i64 (-2),.int .i64 (tg:Int),.int .i64 0,.string lf,.int .i64 ll,.int .i64 lc] Tryz.underlying120 hiP hzP0 hzP1 hzP2 rfl (show 0<6 by omega) rfl hOw3 hPb (by omega) rfl rfl (qt (⟨-2,tg,0,lf,ll,lc⟩:cQ)) ?_;intro h5 w5 hw5 hg5;rw[show([.int .i64 (-2),.int .i64 (tg:Int),.int .i64 0,.string lf,.int .i64 ll,.int .i64 lc]:List Value)=j5 (⟨-2,tg,0,lf,ll,lc⟩:cQ) from rfl,lq]at hw5;have HA:=(show Hid _ from HW3.out.addP (m:=(dN P).n+1) hg5 hw5 (by simp[dN,kq]));have p5:=hg5.kept.get HW3.out.p (fun hq=>by have:=HW3.out.fp _ (aK hq);omega);have f5:=ak p5 0;have c5:w5.cell? ⟨w.heap.size+2,0,none⟩=some (.slice h.ao P.length h.cap):=(by rw[aa p5];rfl);have z5:=ae p5;clear hw5 hg5 p5)
       go_roundg (L.length-(k+1))
       case measure=>omega
       case rel=>exact⟨k+1,h5,P++[⟨-2,tg,0,lf,ll,lc⟩],ht,tags,⟨#[]⟩,true,by omega,rfl,by rw[egt],rfl,rfl,by go_num,⟨by simp;omega,by omega,Nat.zero_le _⟩,(fun _=>by simp),HE,HA⟩
    ·rw[if_neg b1]at HE
     by_cases d1:c=90
     ·subst d1
      cases f
      ·rw[if_neg (by simp),if_neg (by omega)]at HE
       have HX:Hid (iY T S refs en L=lP 4 ⟨90,lf,ll,lc⟩):=HE.out.symm;go_wp2;obtain⟨x0,x1,x2,x3,x4⟩:=eC HW.out.r (.slice none 0 0) (.int .i64 4) (.string lf) (.int .i64 ll) (.int .i64 lc);exact bodyPost_ret (v:=.agg #[.slice none 0 0,.int .i64 4,.string lf,.int .i64 ll,.int .i64 lc]) (by simp[results,Tryz.results176,go_sem,x0,x1,x2,x3,x4]) rfl (by rw[HX.out];exact fF rfl rfl (((((HKW.out.setCell (Or.inr (by simp)) _).setCell (Or.inr (by simp)) _).setCell (Or.inr (by simp)) _).setCell (Or.inr (by simp)) _).setCell (Or.inr (by simp)) _))
      ·rw[if_pos ⟨rfl,rfl⟩]at HE
       have hP0:=HF.out rfl;have hpe:((P.length-1:Nat):Int)=(P.length:Int)-1:=by omega
       have hwp:IntKind.i64.wrap ((P.length:Int)-1)=(P.length:Int)-1:=by rw[IntKind.wrap_i64];omega
       have hOt:=HW.out.ot;have hTb:(bq tags).n<=900000000:=by show tags.length<=_;omega
       go_wp2_with (at_builtin;refine bX _ rfl (.tmp 114) (.tmp 119) 26 rfl iN (.int .i64 0) 8 ht (bq tags) [.int .i64 ((P.length:Int)-1)] Tryz.underlying26 hiN hzN0 hzN1 hzN2 rfl Nat.one_pos rfl hOt hTb (by omega) rfl rfl (by simp[Value.oneCell']) ?_;intro h5 w5 hw5 hg5;rw[<-hpe,qk]at hw5;have HA:=(show Hid _ from HW.out.addT hg5 hw5);clear hw5 hg5)
       go_roundg (L.length-(k+1))
       case measure=>omega
       case rel=>exact⟨k+1,h,P,h5,tags++[P.length-1],num,false,by omega,rfl,by simp[bq],rfl,rfl,by go_num,⟨by omega,by simp;omega,by omega⟩,(fun h=>by cases h),HE,HA⟩
     ·have d1b:(c==90)=false:=by simpa using d1
      rw[if_neg (fun h=>d1 h.1)]at HE
      by_cases e1:c=63
      ·subst e1
       cases hnm:(num.toList == [])
       ·rw[if_neg (by rw[hnm];simp)]at HE
        have HX:Hid (iY T S refs en L=lP 4 ⟨63,lf,ll,lc⟩):=HE.out.symm;go_wp2;obtain⟨x0,x1,x2,x3,x4⟩:=eC HW.out.r (.slice none 0 0) (.int .i64 4) (.string lf) (.int .i64 ll) (.int .i64 lc);exact bodyPost_ret (v:=.agg #[.slice none 0 0,.int .i64 4,.string lf,.int .i64 ll,.int .i64 lc]) (by simp[results,Tryz.results176,go_sem,x0,x1,x2,x3,x4]) rfl (by rw[HX.out];exact fF rfl rfl (((((HKW.out.setCell (Or.inr (by simp)) _).setCell (Or.inr (by simp)) _).setCell (Or.inr (by simp)) _).setCell (Or.inr (by simp)) _).setCell (Or.inr (by simp)) _))
       ·rw[if_pos ⟨rfl,hnm⟩]at HE
        have hOw3:=HW.out.op;have hPb:Hid ((dN P).n<=900000000):=by show P.length<=_;omega
        have HPn:Hid ((dN P).n=P.length):=rfl
        go_upto_region 29 with fail
        go_region_law (refine bD wr rfl (.tmp 129) (.tmp 136) 120 rfl iP (.agg #[.int .i64 0,.int .i64 0,.int .i64 0,.string ⟨#[]⟩,.int .i64 0,.int .i64 0]) 56 h (dN P) [.int .i64 (-1),.int .i64 0,.int .i64 0,.string lf,.int .i64 ll,.int .i64 lc] Tryz.underlying120 hiP hzP0 hzP1 hzP2 rfl (show 0<6 by omega) (by rw[HPn.out];simp[Act.eval]) hOw3 hPb.out (by omega) (by simp[Act.eval]) rfl (qt (⟨-1,0,0,lf,ll,lc⟩:cQ)) ?_;intro ao5 cap5 w5 hw5 hg5;have p5:=hg5.kept.get HW.out.p (fun hq=>by have:=HW.out.fp _ (aK hq);omega);have f5:=ak p5 0;have c5:w5.cell? ⟨w.heap.size+2,0,none⟩=some (.slice h.ao P.length h.cap):=(by rw[aa p5];rfl);have z5:=ae p5)
        all_goals
         rw[show([.int .i64 (-1),.int .i64 0,.int .i64 0,.string lf,.int .i64 ll,.int .i64 lc]:List Value)=j5 (⟨-1,0,0,lf,ll,lc⟩:cQ) from rfl,lq]at hw5;have HA:=(show Hid _ from HW.out.addP (m:=(dN P).n+1) hg5 hw5 (by simp[dN,kq]));clear hw5 hg5 p5 f5 c5 z5;go_wp2
         go_roundg (L.length-(k+1))
         case measure=>omega
         case rel=>exact⟨k+1,⟨ao5,cap5⟩,P++[⟨-1,0,0,lf,ll,lc⟩],ht,tags,num,false,by omega,rfl,rfl,rfl,rfl,by go_num,⟨by simp;omega,by omega,by omega⟩,(fun h=>by cases h),HE,HA⟩
      ·have e1b:(c==63)=false:=by simpa using e1
       rw[if_neg (fun h=>e1 h.1)]at HE;have HX:Hid (iY T S refs en L=lP 4 ⟨c,lf,ll,lc⟩):=HE.out.symm
       by_cases f1:85<=c
       ·have f2:¬c<=89:=fun h=>a1 ⟨f1,h⟩
        have f3:65<=c:=by omega
        have f4:¬c<=84:=by omega
        go_wp2;obtain⟨x0,x1,x2,x3,x4⟩:=eC HW.out.r (.slice none 0 0) (.int .i64 4) (.string lf) (.int .i64 ll) (.int .i64 lc);exact bodyPost_ret (v:=.agg #[.slice none 0 0,.int .i64 4,.string lf,.int .i64 ll,.int .i64 lc]) (by simp[results,Tryz.results176,go_sem,x0,x1,x2,x3,x4]) rfl (by rw[HX.out];exact fF rfl rfl (((((HKW.out.setCell (Or.inr (by simp)) _).setCell (Or.inr (by simp)) _).setCell (Or.inr (by simp)) _).setCell (Or.inr (by simp)) _).setCell (Or.inr (by simp)) _))
       ·by_cases f3:65<=c
        ·exact absurd ⟨f3,by omega⟩ b1
        ·skip
         go_wp2;obtain⟨x0,x1,x2,x3,x4⟩:=eC HW.out.r (.slice none 0 0) (.int .i64 4) (.string lf) (.int .i64 ll) (.int .i64 lc);exact bodyPost_ret (v:=.agg #[.slice none 0 0,.int .i64 4,.string lf,.int .i64 ll,.int .i64 lc]) (by simp[results,Tryz.results176,go_sem,x0,x1,x2,x3,x4]) rfl (by rw[HX.out];exact fF rfl rfl (((((HKW.out.setCell (Or.inr (by simp)) _).setCell (Or.inr (by simp)) _).setCell (Or.inr (by simp)) _).setCell (Or.inr (by simp)) _).setCell (Or.inr (by simp)) _))
  ·have e:k=L.length:=by omega
   subst e;rw[List.drop_length,lM]at HE
   cases hnm:(num.toList == [])
   ·rw[if_pos hnm]at HE
    have HX:Hid (iY T S refs en L=lP 4 en):=HE.out.symm;obtain⟨ec,ef,el,eo⟩:=en;go_wp2;obtain⟨x0,x1,x2,x3,x4⟩:=eC HW.out.r (.slice none 0 0) (.int .i64 4) (.string ef) (.int .i64 el) (.int .i64 eo);exact bodyPost_ret (v:=.agg #[.slice none 0 0,.int .i64 4,.string ef,.int .i64 el,.int .i64 eo]) (by simp[results,Tryz.results176,go_sem,x0,x1,x2,x3,x4]) rfl (by rw[HX.out];exact fF rfl rfl (((((HKW.out.setCell (Or.inr (by simp)) _).setCell (Or.inr (by simp)) _).setCell (Or.inr (by simp)) _).setCell (Or.inr (by simp)) _).setCell (Or.inr (by simp)) _))
   ·rw[if_neg (by rw[hnm];simp)]at HE
    by_cases hp0:P.length=0
    ·rw[if_pos hp0]at HE
     have HX:Hid (iY T S refs en L=lP 1 en):=HE.out.symm;have hpi:((P.length:Int)==0)=true:=by simpa using hp0
     obtain⟨ec,ef,el,eo⟩:=en;go_wp2;obtain⟨x0,x1,x2,x3,x4⟩:=eC HW.out.r (.slice none 0 0) (.int .i64 1) (.string ef) (.int .i64 el) (.int .i64 eo);exact bodyPost_ret (v:=.agg #[.slice none 0 0,.int .i64 1,.string ef,.int .i64 el,.int .i64 eo]) (by simp[results,Tryz.results176,go_sem,x0,x1,x2,x3,x4]) rfl (by rw[HX.out];exact fF rfl rfl (((((HKW.out.setCell (Or.inr (by simp)) _).setCell (Or.inr (by simp)) _).setCell (Or.inr (by simp)) _).setCell (Or.inr (by simp)) _).setCell (Or.inr (by simp)) _))
    ·rw[if_neg hp0]at HE
     have HX:Hid (iY T S refs en L=⟨P,0,⟨#[]⟩,0,0⟩):=HE.out.symm;have hpi:((P.length:Int)==0)=false:=by simpa using hp0
     have HNE:Hid (∀q,h.blk=some q->q≠w.heap.size+1):=fun q hq=>by have:=HW.out.fp q hq;omega
     go_wp2;obtain⟨x0,x1,x2,x3,x4⟩:=eC HW.out.r (.slice h.ao P.length h.cap) (.int .i64 0) (.string ⟨#[]⟩) (.int .i64 0) (.int .i64 0);exact bodyPost_ret (v:=.agg #[.slice h.ao P.length h.cap,.int .i64 0,.string ⟨#[]⟩,.int .i64 0,.int .i64 0]) (by simp[results,Tryz.results176,go_sem,x0,x1,x2,x3,x4]) rfl (by rw[HX.out];exact⟨h,rfl,⟨((((HW.out.op.aside HNE.out _ _).aside HNE.out _ _).aside HNE.out _ _).aside HNE.out _ _).aside HNE.out _ _,fun q hq=>(by have:=HW.out.fp q hq;omega),((((HKW.out.setCell (Or.inr (by simp)) _).setCell (Or.inr (by simp)) _).setCell (Or.inr (by simp)) _).setCell (Or.inr (by simp)) _).setCell (Or.inr (by simp)) _⟩⟩)
def AW(t:Tk):Lt:=⟨0,t.file,t.line,t.col⟩
def ss(T:List Tk)(S:List Sm)(a z:Nat):Nat->Nat->List Nat->jD
 | 0,_,_=>lP 3 (AW (T.getD z ic))
 | n+1,i,refs =>
  if((tS T i).toList == [41])=true then iY T S refs (AW (T.getD z ic)) (dW T (i+1) z)
  else if dX T S a (tS T i)<0 then lP 2 (AW (T.getD i ic))
  else if refs.contains (dX T S a (tS T i)).toNat=true then lP 3 (AW (T.getD i ic))
  else ss T S a z n (i+1) (refs++[(dX T S a (tS T i)).toNat])
def iQ(T:List Tk)(S:List Sm)(a i z:Nat):jD:=ss T S a z (z-i) i (cC T S a)
theorem oX.cells{w:World}{ao:Option Addr}{L:List Nat}(h:oX w ao L):∀ad,ao=some ad->∀j u,(iW L)[j]?=some u->w.cell? (ad.add j)=some u:=by
 intro ad e j u hj;rw[iW,List.getElem?_map]at hj
 cases hx:L[j]? with
 | none=>rw[hx]at hj;cases hj
 | some x =>
  rw[hx]at hj
  cases hj
  obtain⟨g,e2,-,c⟩:=h j x hx;rw[e]at e2
  cases e2
  rw[bK];simpa using c
theorem GJ(L:List Nat):∀u∈iW L,u.oneCell'=true:=by
 intro u hu;obtain⟨x,-,rfl⟩:=List.mem_map.1 hu;rfl
theorem G6(L M:List Nat):(⟨(bq L).e,(bq L).size,(bq L).n+M.length,(bq L).xs++iW M⟩:dK)=bq (L++M):=by
 simp[bq,iW]
theorem ir.none{w wr:World}{h:Hd}{r:dK}(a:ir w wr h r):h.ao=none->r.n=0/\h.cap=0:=fun e=>by
 rcases a.own.ways with ⟨q1,q2,q3⟩ | ⟨g,cur,q1,-⟩
 ·exact⟨q2,by rw[q1]⟩
 ·rw[e]at q1;cases q1
theorem ir.le{w wr:World}{h:Hd}{r:dK}(a:ir w wr h r):r.n<=h.cap:=by
 rcases a.own.ways with ⟨q1,q2,q3⟩ | ⟨g,cur,q1,-,q3,-⟩
 ·omega
 ·exact q3
theorem pV(T:List Tk)(S:List Sm)(a:Nat):∀j∈cC T S a,j<a:=fun _ hj=>List.mem_range.1 (List.mem_filter.1 hj).1
theorem kU(T:List Tk)(S:List Sm)(a:Nat):(cC T S a).length<=a:=by
 unfold cC;have:=List.length_filter_le (tT T S a (Iq T S a)) (List.range a);rw[List.length_range]at this;exact this
theorem uD(T:List Tk)(hO:ev T)(a z:Nat):(dW T a z).length<=1024*T.length:=by
 have:∀L:List Tk,(∀t∈L,t.s.size<=1024)->(L.flatMap rm).length<=1024*L.length:=by
  intro L
  induction L with
  | nil=>intro _;simp
  | cons t L ih =>
   intro h;have h1:=h t (by simp);have h2:=ih (fun t ht=>h t (by simp[ht]));rw[List.flatMap_cons,List.length_append,List.length_cons];have:(rm t).length=t.s.size:=by unfold rm;simp
   omega
 have h1:=this ((T.drop a).take (z-a)) (fun t ht=>(hO t (List.mem_of_mem_drop (List.mem_of_mem_take ht))).1);have h2:((T.drop a).take (z-a)).length<=T.length:=by rw[List.length_take,List.length_drop];omega
 unfold dW;omega
theorem Dp(d:ByteArray)(k:Nat):0<=aF d k/\aF d k<256:=by
 unfold aF
 split
 ·next h=>have:=(d[k]'h).toNat_lt;omega
 ·omega
theorem Ht(T:List Tk)(a z:Nat):∀l∈dW T a z,0<=l.c/\l.c<256:=by
 intro l hl;unfold dW at hl;obtain⟨t,-,ht⟩:=List.mem_flatMap.1 hl;unfold rm at ht;obtain⟨k,-,rfl⟩:=List.mem_map.1 ht;exact Dp _ _
theorem og{w:World}{B:Nat}(h:w.heap[B]?=some (.cells #[.slice none 0 0,.int .i64 0,.string ⟨#[]⟩,.int .i64 0,.int .i64 0] 122 (0,0))) :
  (w.cell? ⟨B,0,none⟩=some (.slice none 0 0)/\w.cell? ⟨B,1,none⟩=some (.int .i64 0)/\w.cell? ⟨B,2,none⟩=some (.string ⟨#[]⟩)/\w.cell? ⟨B,3,none⟩=some (.int .i64 0)/\w.cell? ⟨B,4,none⟩=some (.int .i64 0)) /\
  (w.frozen? ⟨B,0,none⟩=false/\w.frozen? ⟨B,1,none⟩=false/\w.frozen? ⟨B,2,none⟩=false/\w.frozen? ⟨B,3,none⟩=false/\w.frozen? ⟨B,4,none⟩=false)/\B<w.heap.size:=by
 refine⟨⟨?_,?_,?_,?_,?_⟩,⟨ak h 0,ak h 1,ak h 2,ak h 3,ak h 4⟩,ae h⟩
 all_goals (rw[aa h];rfl)
theorem yo{L:List Nat}{x m:Nat}(hm:m=L.length)(h:∀q (hq:q<L.length),q<m->L[q]≠x):L.contains x=false:=by
 cases e:L.contains x
 ·rfl
 ·rw[List.contains_iff_mem]at e
  obtain⟨q,hq,e2⟩:=List.getElem_of_mem e;exact absurd e2 (h q hq (by omega))
set_option maxRecDepth 100000 in
theorem Bh(b n i z:Nat)(T:List Tk)(aoT:Option Addr)(cT:Nat)(S:List Sm)(aoS:Option Addr)(cS:Nat)(w:World)(hD:eW w b T aoT cT S aoS cS)(ok:mx T S n)(hn:n<S.length)(hE:eD T (au S n).h)(hO:ev T)(hi:i<=z)(hz:z<T.length) :
  Calls Tryz.prog 127 #[.pointer (some ⟨b,0,none⟩),.int .i64 n,.int .i64 i,.int .i64 z] w fun e w'=>mv w (iQ T S n i z) e w':=by
 obtain⟨W,HW⟩:∃W,Hid (w.alloc (.cells #[.slice none 0 0,.int .i64 0,.string ⟨#[]⟩,.int .i64 0,.int .i64 0] 122)=W):=⟨_,rfl⟩
 have BW:W.heap[w.heap.size]?=some (.cells #[.slice none 0 0,.int .i64 0,.string ⟨#[]⟩,.int .i64 0,.int .i64 0] 122 (0,0)):=by rw[<-HW.out];exact heap_alloc_new _ _
 have HKW:Hid (ab [] w W):=by show ab [] w W;rw[<-HW.out];exact(ab.refl [] _).alloc _
 have hWz:W.heap.size=w.heap.size+1:=by rw[<-HW.out];simp
 have HDW:=(show Hid _ from hD.still HKW.out);have HOK:=(show Hid _ from ok);have HTK:=(show Hid _ from hO);have hT2:=ok.tm;have hS2:=ok.sm;have HHY:=(show Hid _ from ob b n T aoT cT S aoS cS W HDW.out ok hn hE);have hyl:=kU T S n;have HYL:=(show Hid _ from pV T S n);have HP0:Hid (ss T S n z (z-i) i (cC T S n)=iQ T S n i z):=rfl;obtain⟨iN,hiN,hzN0,hzN1,hzN2⟩:=info_parts xd;have HBW:=(show Hid _ from BW)
 -- a fault
 have HEX:Hid (∀(wr:World),ab [] W wr->(wr.heap[w.heap.size]?=some (.cells #[.slice none 0 0,.int .i64 0,.string ⟨#[]⟩,.int .i64 0,.int .i64 0] 122 (0,0)))):=fun wr k=>k.get HBW.out (by simp)
 clear hD ok hO;generalize cC T S n=HY at *;go_enter Tryz.func127,Tryz.ntmps127
 go_upto_region 1 with fail
 rw[HW.out]
 go_upto_region 2 with (go_at_call 62;refine Calls.mono HHY.out ?_;rintro e w1 ⟨h1,rfl,x1⟩)
 have HK1:=(show Hid _ from x1.kept);have hc1:=(show Hid _ from x1.own.srcN.cells);have hn1:=(show Hid _ from x1.none);have HN0:Hid (ir W w1 ⟨none,0⟩ (bq [])):=⟨World.ownsRow_nil _ _ _ _,(by intro k hk;cases hk),x1.kept⟩;have hO0:=HN0.out.own;clear x1 HHY
 go_upto_region 3 with (at_builtin;refine eO _ rfl (.const (.slice none 0 0)) (.tmp 18) 26 rfl iN (.int .i64 0) 8 ⟨none,0⟩ (bq []) Tryz.underlying26 hiN hzN0 hzN1 hzN2 rfl Nat.one_pos rfl hO0 h1.ao HY.length h1.cap (iW HY) rfl (by simp[bq,iW]) hn1.out hc1.out (GJ HY) (by simp only[bq,List.length_nil];omega) (by omega) ?_;intro h5 w5 hw5 hg5;rw[G6]at hw5;have HM2:=(show Hid _ from HN0.out.grew hg5 hw5);clear hw5 hg5)
 rw[List.nil_append]at HM2;have hr0:(bq ([]:List Nat)).n+HY.length=HY.length:=by simp[bq]
 rw[hr0];clear hr0 hc1 hn1 HN0 hO0;go_wp2
 go_loopg [10,11] (z-i) (fun g r iv wr=>∃(m:Nat) (h':Hd) (R:List Nat),(i<=m/\m<=z)/\g=z-m/\r=.slice h'.ao R.length h'.cap/\iv=.int .i64 m/\R.length<=10000+m/\Hid (∀q∈R,q<n)/\Hid (ss T S n z (z-m) m R=iQ T S n i z)/\Hid (ir W wr h' (bq R)))
 case atStart=>exact⟨i,h5,HY,⟨by omega,by omega⟩,rfl,rfl,rfl,by omega,HYL,HP0,HM2⟩
 case round =>
  obtain⟨m,h',R,⟨hm1,hm2⟩,hg,rfl,rfl,hRl,HRn,HE2,HWr⟩:=hrel;have HKr:=(show Hid _ from HWr.out.kept);have HDr:=(show Hid _ from eW.still HDW.out HKr.out);obtain⟨c0,-,hb⟩:=HDr.out.cells;have BR:=HEX.out wr HKr.out;have HKw:=(show Hid _ from HKW.out.trans HKr.out);obtain⟨⟨r0,r1,r2,r3,r4⟩,⟨f0,f1,f2,f3,f4⟩,hzr⟩:=og BR;obtain⟨gT,rfl,hgT,t0,-,t2,t3,t4⟩:=HDr.out.t.2 z _ (gg T z hz);have hzi:(z:Int)<(T.length:Int):=by omega
  by_cases hlt:m<z
  ·have hmi:(m:Int)<(z:Int):=by omega
   have hmi2:(m:Int)<(T.length:Int):=by omega
   obtain⟨gT2,e2,-,u0,-,u2,u3,u4⟩:=HDr.out.t.2 m _ (gg T m (by omega))
   cases e2
   replace u0:wr.cell? ⟨gT,m*5,none⟩=some (.string (tS T m)):=u0;obtain⟨f,hf⟩:∃f,z-m=f+1:=⟨z-m-1,by omega⟩
   rw[hf,ss]at HE2;have HUS:Hid (Calls Tryz.prog 128 #[.pointer (some ⟨b,0,none⟩),.int .i64 n,.string (tS T m)] wr fun e w'=>e=.returned (.int .i64 (dX T S n (tS T m)))/\ab [] wr w'):=uN b n (tS T m) T _ cT S aoS cS wr HDr.out HOK.out;have hus:=nX T S n (tS T m);obtain⟨x,Hx⟩:∃x,Hid (tS T m=x):=⟨_,rfl⟩
   rw[Hx.out]at u0 HE2 HUS hus;clear Hx
   cases h1:(x.toList == [41])
   ·rw[if_neg (by rw[h1];simp)]at HE2
    go_upto_region 6 with (go_at_call 128;refine Calls.mono HUS.out ?_;rintro e w1 ⟨rfl,k1⟩)
    have HWr1:=(show Hid _ from HWr.out.still k1);have HKr1:=(show Hid _ from HWr1.out.kept);have HKw1:=(show Hid _ from HKW.out.trans HKr1.out);have HDr1:=(show Hid _ from eW.still HDW.out HKr1.out);have BR1:=HEX.out w1 HKr1.out;clear r0 r1 r2 r3 r4 f0 f1 f2 f3 f4 hzr;clear k1 c0 hb t0 t2 t3 t4 u0 u2 u3 u4 hgT;obtain⟨⟨r0,r1,r2,r3,r4⟩,⟨f0,f1,f2,f3,f4⟩,hzr⟩:=og BR1;obtain⟨c0,-,hb⟩:=HDr1.out.cells;obtain⟨gT3,e3,hgT,-,-,u2,u3,u4⟩:=HDr1.out.t.2 m _ (gg T m (by omega))
    cases e3
    rcases hus with hus | ⟨j,hj,hus⟩
    ·rw[hus,if_pos (by omega)]at HE2
     rw[hus];have HX:Hid (iQ T S n i z=lP 2 (AW (T.getD m ic))):=HE2.out.symm;generalize T.getD m ic=tm at *;obtain⟨ms,mr,mf,ml,mc⟩:=tm;simp only at u2 u3 u4;go_wp2;obtain⟨x0,x1,x2,x3,x4⟩:=eC BR1 (.slice none 0 0) (.int .i64 2) (.string mf) (.int .i64 ml) (.int .i64 mc);exact bodyPost_ret (v:=.agg #[.slice none 0 0,.int .i64 2,.string mf,.int .i64 ml,.int .i64 mc]) (by simp[results,Tryz.results127,go_sem,x0,x1,x2,x3,x4]) rfl (by rw[HX.out];exact fF rfl rfl (((((HKw1.out.setCell (Or.inr (by simp)) _).setCell (Or.inr (by simp)) _).setCell (Or.inr (by simp)) _).setCell (Or.inr (by simp)) _).setCell (Or.inr (by simp)) _))
    ·rw[hus,if_neg (by omega),Int.toNat_natCast]at HE2
     rw[hus];have hji:¬(j:Int)<0:=by omega
     have HSN:=(show Hid _ from HWr1.out.own.srcN);have hRc:=HWr1.out.le;have hRc2:R.length<=h'.cap:=hRc;clear hRc;obtain⟨hao,hcap⟩:=h';go_wp2
     go_loopg [13] R.length (fun g kv wr=>∃q:Nat,q<=R.length/\g=R.length-q/\kv=.int .i64 q/\Hid (∀p (hp:p<R.length),p<q->R[p]≠j)/\wr=w1)
     case atStart=>exact⟨0,by omega,rfl,rfl,(fun p _ h=>by omega),rfl⟩
     case round =>
      obtain⟨q,hq,hg2,rfl,HNO,rfl⟩:=hrel
      by_cases hq2:q<R.length
      ·have hqi:(q:Int)<(R.length:Int):=by omega
       obtain⟨gR,egR,hgR,cq⟩:=HSN.out q R[q] (List.getElem?_eq_getElem hq2);have HMEM:Hid (R[q]=j->R.contains j=true):=fun e=>by rw[List.contains_iff_mem,<-e];exact List.getElem_mem hq2
       have HNX:Hid (R[q]≠j->∀p (hp:p<R.length),p<q+1->R[p]≠j):=fun e p hp h2=>by
        by_cases e2:p=q
        ·subst e2;exact e
        ·exact HNO.out p hp (by omega)
       generalize R[q]=rq at *;replace egR:hao=some ⟨gR,0,none⟩:=egR;subst egR
       by_cases hjq:rq=j
       ·subst hjq
        rw[if_pos (HMEM.out rfl)]at HE2;have HX:Hid (iQ T S n i z=lP 3 (AW (T.getD m ic))):=HE2.out.symm;generalize T.getD m ic=tm at *;obtain⟨ms,mr,mf,ml,mc⟩:=tm;simp only at u2 u3 u4;go_wp2;obtain⟨x0,x1,x2,x3,x4⟩:=eC BR1 (.slice none 0 0) (.int .i64 3) (.string mf) (.int .i64 ml) (.int .i64 mc);exact bodyPost_ret (v:=.agg #[.slice none 0 0,.int .i64 3,.string mf,.int .i64 ml,.int .i64 mc]) (by simp[results,Tryz.results127,go_sem,x0,x1,x2,x3,x4]) rfl (by rw[HX.out];exact fF rfl rfl (((((HKw1.out.setCell (Or.inr (by simp)) _).setCell (Or.inr (by simp)) _).setCell (Or.inr (by simp)) _).setCell (Or.inr (by simp)) _).setCell (Or.inr (by simp)) _))
       ·have hjb:((rq:Int)==(j:Int))=false:=by simpa using (fun e=>hjq (by omega))
        have HM:=(show Hid _ from HNX.out hjq);go_wp2
        go_roundg (R.length-(q+1))
        case measure=>omega
        case rel=>exact⟨q+1,by omega,rfl,by go_num,HM,rfl⟩
      ·have eq:q=R.length:=by omega
       rw[if_neg (by rw[yo eq HNO.out];simp)]at HE2;have hqi:¬(q:Int)<(R.length:Int):=by omega
       have hOw:=HWr1.out.own;have hRb:(bq R).n<=900000000:=by show R.length<=_;omega
       have HRn2:Hid (∀q∈R++[j],q<n):=fun q hq=>by
        rcases List.mem_append.1 hq with h | h
        ·exact HRn.out q h
        ·rw[List.mem_singleton.1 h];exact hj
       have hf2:z-(m+1)=f:=by omega
       go_wp2_with (at_builtin;refine bX _ rfl (.tmp 78) (.tmp 80) 26 rfl iN (.int .i64 0) 8 ⟨hao,hcap⟩ (bq R) [.int .i64 (j:Int)] Tryz.underlying26 hiN hzN0 hzN1 hzN2 rfl Nat.one_pos rfl hOw hRb (by omega) rfl rfl (by simp[Value.oneCell']) ?_;intro h6 w6 hw6 hg6;rw[qk]at hw6;have HA:=(show Hid _ from HWr1.out.grew hg6 hw6);clear hw6 hg6)
       go_roundg (z-(m+1))
       case measure=>omega
       case rel=>exact⟨m+1,h6,R++[j],⟨by omega,by omega⟩,rfl,by simp[bq],by go_num,by simp;omega,HRn2,by rw[hf2];exact HE2,HA⟩
   ·rw[if_pos h1]at HE2
    have hmz:((m:Int)==(z:Int))=false:=by simpa using (fun e:(m:Int)=(z:Int)=>by omega)
    have hc1:((m+1:Nat):Int)=(m:Int)+1:=by omega
    have HSP:=(show Hid _ from BC T (some ⟨gT,0,none⟩) cT (m+1) z wr HDr.out.t hT2 (by omega) (by omega) HTK.out);rw[hc1]at HSP
    go_upto_region 18 with (go_at_call 175;refine Calls.mono HSP.out ?_;rintro e w1 ⟨h2,rfl,x1⟩)
    have k1:=x1.kept;have HSG:=(show Hid _ from x1.own.srcG Jj);have HWr1:=(show Hid _ from HWr.out.still k1);have HKr1:=(show Hid _ from HWr1.out.kept);have HKw1:=(show Hid _ from HKW.out.trans HKr1.out);have HDr1:=(show Hid _ from eW.still HDW.out HKr1.out);have HST:=(show Hid _ from E7 b n T (some ⟨gT,0,none⟩) cT S aoS cS R h'.ao h'.cap (dW T (m+1) z) h2.ao h2.cap (AW (T.getD z ic)) w1 HDr1.out HOK.out HWr1.out.own.srcN HRn.out (by omega) HSG.out (by have:=uD T HTK.out (m+1) z;omega) (Ht T (m+1) z));have HX:Hid (iQ T S n i z=iY T S R (AW (T.getD z ic)) (dW T (m+1) z)):=HE2.out.symm;generalize dW T (m+1) z=SP at *;clear r0 r1 r2 r3 r4 f0 f1 f2 f3 f4 hzr;clear c0 hb t0 t2 t3 t4 u0 u2 u3 u4 hgT x1 HSP;obtain⟨c0,-,hb⟩:=HDr1.out.cells;obtain⟨gT3,e3,hgT,-,-,t2,t3,t4⟩:=HDr1.out.t.2 z _ (gg T z hz)
    cases e3
    generalize T.getD z ic=tm at *;obtain⟨ms,mr,mf,ml,mc⟩:=tm;simp only at t2 t3 t4;unfold AW at HST HX;simp only at HST;generalize iY T S R ⟨0,mf,ml,mc⟩ SP=PF at *;obtain⟨pst,pw,pf,pl,pc⟩:=PF;have HST2:Hid (Calls Tryz.prog 176 #[.pointer (some ⟨b,0,none⟩),.slice h'.ao R.length h'.cap,.slice h2.ao SP.length h2.cap,.agg #[.string mf,.int .i64 ml,.int .i64 mc]] w1 fun e w'=>∃h',e=.returned (.agg #[.slice h'.ao pst.length h'.cap,.int .i64 pw,.string pf,.int .i64 pl,.int .i64 pc])/\ir w1 w' h' (dN pst)):=HST.out;go_wp2_with (go_at_call 176;refine Calls.mono HST2.out ?_;rintro e w2 ⟨h3,rfl,x2⟩;have BR2:=HEX.out w2 (HKr1.out.trans x2.kept);obtain⟨⟨r0,r1,r2,r3,r4⟩,⟨f0,f1,f2,f3,f4⟩,hzr⟩:=og BR2);obtain⟨y0,y1,y2,y3,y4⟩:=eC BR2 (.slice h3.ao pst.length h3.cap) (.int .i64 pw) (.string pf) (.int .i64 pl) (.int .i64 pc);have HNE:Hid (∀q,h3.blk=some q->q≠w.heap.size):=fun q hq=>by have:=x2.far q hq;have:=HKw1.out.size;have:=ae (HEX.out w1 HKr1.out);omega
    have HK2:=(show Hid _ from HKw1.out.trans x2.kept);exact bodyPost_ret (v:=.agg #[.slice h3.ao pst.length h3.cap,.int .i64 pw,.string pf,.int .i64 pl,.int .i64 pc]) (by simp[results,Tryz.results127,go_sem,y0,y1,y2,y3,y4]) rfl (by rw[HX.out];exact⟨h3,rfl,⟨((((x2.own.aside HNE.out _ _).aside HNE.out _ _).aside HNE.out _ _).aside HNE.out _ _).aside HNE.out _ _,fun q hq=>(by have:=x2.far q hq;have:=HKw1.out.size;omega),((((HK2.out.setCell (Or.inr (by simp)) _).setCell (Or.inr (by simp)) _).setCell (Or.inr (by simp)) _).setCell (Or.inr (by simp)) _).setCell (Or.inr (by simp)) _⟩⟩)
  ·have e:m=z:=by omega
   subst e;rw[Nat.sub_self,ss]at HE2;have HX:Hid (iQ T S n i m=lP 3 (AW (T.getD m ic))):=HE2.out.symm;generalize T.getD m ic=tm at *;obtain⟨ms,mr,mf,ml,mc⟩:=tm;simp only at t2 t3 t4;go_wp2;obtain⟨x0,x1,x2,x3,x4⟩:=eC BR (.slice none 0 0) (.int .i64 3) (.string mf) (.int .i64 ml) (.int .i64 mc);exact bodyPost_ret (v:=.agg #[.slice none 0 0,.int .i64 3,.string mf,.int .i64 ml,.int .i64 mc]) (by simp[results,Tryz.results127,go_sem,x0,x1,x2,x3,x4]) rfl (by rw[HX.out];exact fF rfl rfl (((((HKw.out.setCell (Or.inr (by simp)) _).setCell (Or.inr (by simp)) _).setCell (Or.inr (by simp)) _).setCell (Or.inr (by simp)) _).setCell (Or.inr (by simp)) _))
end Go.Proofs.YtpddjjabfbfifaaGreat
