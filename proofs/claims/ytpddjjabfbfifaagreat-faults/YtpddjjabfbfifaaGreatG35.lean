import Derived.Test.YtpddjjabfbfifaaGreatG34
namespace Go.Proofs.YtpddjjabfbfifaaGreat
open Go.RowKit
set_option maxHeartbeats 40000000
theorem bX{P:Program}(w:World){ops:Array Oper}{rest:List Oper}{o:Oper}{a:Act}{Q:Exit->Act->World->Prop}
  (hg:o.guard=none) (s x:Operand) (t:TypeId) (hop:o.op=Op.call { callee:=Callee.builtin Builtin.append,args:=#[s,x],argTypes:=#[t,t] })
  (i:TypeInfo) (z:Value) (bytes:Nat) (h:Hd) (r:dK) (news:List Value) (h1:P.underlying t=some (.slice r.e)) (h2:P.info? r.e=some i) (h3:i.zero=some z) (h4:i.size=r.size) (h5:i.bytes=bytes) (h6:z.cells.size=r.size) (h7:0<r.size)
  (hs:a.eval s=.slice h.ao r.n h.cap) (hown:aA w h r) (hL:r.n<=900000000) (hb:bytes<=1000) (hx:a.eval x=.slice (some ⟨w.heap.size,0,none⟩) 1 1) (hn:news.length=r.size) (h1c:∀u∈news,u.oneCell'=true)
  (hK:∀h' w',aA w' h' ⟨r.e,r.size,r.n+1,r.xs++news⟩->bh w w' h h'->wpList P ops Q rest (a.put o.dst (.slice h'.ao (r.n+1) h'.cap)) w') :
  wpList P ops Q (o :: rest) a (w.alloc (.cells news.toArray r.e)):=by
 have k1:ab [] w (w.alloc (.cells news.toArray r.e)):=(ab.refl [] _).alloc _;have hk:(w.alloc (.cells news.toArray r.e)).heap[w.heap.size]?=some (.cells news.toArray r.e (0,0)):=heap_alloc_new _ _;refine eK _ hg s x t hop i z bytes h r h1 h2 h3 h4 h5 h6 h7 hs (hown.still k1) (some ⟨w.heap.size,0,none⟩) 1 1 news hx (by omega) (fun e=>by cases e) ?_ h1c (by omega) hb ?_
 ·intro ad e j u hj
  cases e
  rw[bK,aa hk];simpa using hj
 ·intro h' w' o' g'
  exact hK h' w' o' ((bh.still k1).trans g')
def mV(w:World)(p:jG)(e:Ending)(w':World):Prop:=∃h',e=.returned (LA p h')/\iz w w' h' (dO p.st)
theorem fE{w w':World}{p:jG}{e:Ending}(hp:p.st=[])(he:e=.returned (.agg #[.slice none 0 0,.int .i64 p.why,.string p.file,.int .i64 p.line,.int .i64 p.col]))(k:ab [] w w'):mV w p e w' :=
 ⟨⟨none,0⟩,by rw[he,LA,hp];rfl,by rw[hp];exact⟨World.ownsRow_nil _ _ _ _,(by intro k hk;cases hk),k⟩⟩
theorem aA.aside{w:World}{h:Hd}{r:dK}{B:Nat}(o:aA w h r)(hB:∀k,h.blk=some k->k≠B)(i:Nat)(v:Value):aA (w.setCell ⟨B,i,none⟩ v) h r:=by
 have k:ab [B] w (w.setCell ⟨B,i,none⟩ v):=(ab.refl _ _).setCell (Or.inl (by simp)) _;exact o.moved (fun q hq=>k.block q (o.lt hq) (by simp;exact hB q hq))
theorem Fh{α:Type}(L:List α)(k:Nat)(h:k<L.length):L.drop k=L[k] :: L.drop (k+1):=List.drop_eq_getElem_cons h
set_option maxRecDepth 100000 in
theorem Ee(b n:Nat)(T:List Tk)(aoT:Option Addr)(cT:Nat)(S:List Sm)(aoS:Option Addr)(cS:Nat)(refs:List Nat)(aoR:Option Addr)(cR:Nat)(L:List Lt)(aoL:Option Addr)(cL:Nat)(en:Lt)(w:World)(hD:fa w b T aoT cT S aoS cS)(ok:mG T S n)(hR:pE w aoR refs)(hr:∀r∈refs,r<n)(hrl:refs.length<=30000)(hL:cK w aoL 4 Lh L)(hLl:L.length<=20000000)(hLc:∀l∈L,0<=l.c/\l.c<256) :
  Calls Tryz.prog 176 #[.pointer (some ⟨b,0,none⟩),.slice aoR refs.length cR,.slice aoL L.length cL,.agg #[.string en.file,.int .i64 en.line,.int .i64 en.col]] w fun e w'=>mV w (i7 T S refs en L) e w':=by
 have HD:=(show Hid _ from hD);have HOK:=(show Hid _ from ok);have HR:=(show Hid _ from hR);have HL:=(show Hid _ from hL);have HLC:=(show Hid _ from hLc);have HRR:=(show Hid _ from hr);obtain⟨iN,hiN,hzN0,hzN1,hzN2⟩:=info_parts xb;obtain⟨iP,hiP,hzP0,hzP1,hzP2⟩:=info_parts FZ
 have S0:Hid (Cp w (((w.alloc (.cells #[.string en.file,.int .i64 en.line,.int .i64 en.col] 36)).alloc (.cells #[.slice none 0 0,.int .i64 0,.string ⟨#[]⟩,.int .i64 0,.int .i64 0] 122)).alloc (.cells #[.slice none 0 0,.int .i64 0,.string ⟨#[]⟩,.int .i64 0,.int .i64 0] 122)) en [] ⟨none,0⟩ [] ⟨none,0⟩):=by
  obtain⟨W1,hW1⟩:∃W1,W1=w.alloc (.cells #[.string en.file,.int .i64 en.line,.int .i64 en.col] 36):=⟨_,rfl⟩
  obtain⟨W2,hW2⟩:∃W2,W2=W1.alloc (.cells #[.slice none 0 0,.int .i64 0,.string ⟨#[]⟩,.int .i64 0,.int .i64 0] 122):=⟨_,rfl⟩
  have z1:W1.heap.size=w.heap.size+1:=by rw[hW1];simp
  have z2:W2.heap.size=w.heap.size+2:=by rw[hW2];simp[z1]
  have k1:ab [] W1 W2:=by rw[hW2];exact(ab.refl [] _).alloc _
  have k0:ab [] w W1:=by rw[hW1];exact(ab.refl [] _).alloc _
  have k2:ab [] W2 (W2.alloc (.cells #[.slice none 0 0,.int .i64 0,.string ⟨#[]⟩,.int .i64 0,.int .i64 0] 122)):=(ab.refl [] _).alloc _;have e0:W1.heap[w.heap.size]?=some (.cells #[.string en.file,.int .i64 en.line,.int .i64 en.col] 36 (0,0)):=by rw[hW1];exact heap_alloc_new _ _
  have e1:W2.heap[w.heap.size+1]?=some (.cells #[.slice none 0 0,.int .i64 0,.string ⟨#[]⟩,.int .i64 0,.int .i64 0] 122 (0,0)):=by rw[hW2,<-z1];exact heap_alloc_new _ _
  show Cp _ _ _ _ _ _ _
  rw[<-hW1,<-hW2];exact⟨k2.get (k1.get e0 (by simp)) (by simp),k2.get e1 (by simp),by rw[<-z2];exact heap_alloc_new _ _,World.ownsRow_nil _ _ _ _,World.ownsRow_nil _ _ _ _,(by intro k hk;cases hk),(by intro k hk;cases hk),(by intro k hk;cases hk),(k0.trans k1).trans k2⟩
 clear hD ok hR hL hLc hr;go_enter Tryz.func176,Tryz.ntmps176;go_wp2
 go_loopg [10,11,12,13] L.length (fun g tg nm fr i wr=>∃(k:Nat) (h:Hd) (P:List cO) (ht:Hd) (tags:List Nat) (num:ByteArray) (f:Bool),k<=L.length/\g=L.length-k/\tg=.slice ht.ao tags.length ht.cap/\nm=.string num/\fr=.bool f/\i=.int .i64 k/\(P.length<=k/\tags.length<=k/\num.size<=k)/\Hid (f=true->0<P.length)/\Hid (lG T S refs en (L.drop k) P tags num f=i7 T S refs en L)/\Hid (Cp w wr en P h tags ht))
 case atStart=>exact⟨0,⟨none,0⟩,[],⟨none,0⟩,[],⟨#[]⟩,false,by omega,rfl,rfl,rfl,rfl,rfl,⟨Nat.le_refl _,Nat.le_refl _,Nat.le_refl _⟩,(fun h=>by cases h),rfl,S0⟩
 case round =>
  obtain⟨k,h,P,ht,tags,num,f,hk,hg,rfl,rfl,rfl,rfl,⟨hPl,htl,hnl⟩,HF,HE,HW⟩:=hrel;obtain⟨⟨ce0,ce1,ce2⟩,⟨cr0,cr1,cr2,cr3,cr4⟩,⟨cp0,cp1,cp2,cp3,cp4⟩,⟨fr0,Kc,JT,J5,JU⟩,fp0,hzw⟩:=HW.out.cells;have HKW:=(show Hid _ from HW.out.kept)
  by_cases hlt:k<L.length
  ·have hki:(k:Int)<(L.length:Int):=by omega
   obtain⟨gL,rfl,hgL,cL0⟩:=(cK.still HL.out HKW.out) k L[k] (List.getElem?_eq_getElem hlt);have l0:wr.cell? ⟨gL,k*4,none⟩=some (.int .u8 L[k].c):=cL0 0 _ rfl;have l1:=cL0 1 _ rfl;have l2:=cL0 2 _ rfl;have l3:=cL0 3 _ rfl
   have HLl:Hid (∀w',ab [] w w'->gL<w'.heap.size/\w'.cell? ⟨gL,k*4+1,none⟩=some (.string L[k].file)/\w'.cell? ⟨gL,k*4+2,none⟩=some (.int .i64 L[k].line)/\w'.cell? ⟨gL,k*4+3,none⟩=some (.int .i64 L[k].col)):=fun w' kw=>by
    obtain⟨g2,e2,h2,c2⟩:=(cK.still HL.out kw) k L[k] (List.getElem?_eq_getElem hlt)
    cases e2
    exact⟨h2,c2 1 _ rfl,c2 2 _ rfl,c2 3 _ rfl⟩
   have hLc:=HLC.out L[k] (List.getElem_mem hlt);have HDr:=(show Hid _ from Fh L k hlt);rw[HDr.out,lG]at HE;clear cL0 HDr;generalize L[k]=l at *;obtain⟨c,lf,ll,lc⟩:=l;simp only at l0 l1 l2 l3 hLc HE HLl;have hcv:=fun wx=>JO c hLc wx
   obtain⟨hc0,hc1⟩:=hLc;have hcs:(Ad c).size=1:=rfl
   -- a fault at this letter
   have HBX:Hid (∀(w2:World) (e:Ending),ab [] w w2->e=.returned (.agg #[.slice none 0 0,.int .i64 4,.string lf,.int .i64 ll,.int .i64 lc])->i7 T S refs en L=lQ 4 ⟨c,lf,ll,lc⟩->mV w (i7 T S refs en L) e w2):=fun w2 e k2 he hx=>by rw[hx];exact fE rfl he k2
   by_cases a1:85<=c/\c<=89
   ·rw[if_pos a1]at HE
    obtain⟨a1,a2⟩:=a1;have HKA:=(show Hid _ from(ab.refl [] wr).alloc (.cells #[.int .u8 c] 5));have HWA:=(show Hid _ from HW.out.still HKA.out);have Hsz:Hid ((num++Ad c).size=num.size+1):=by show _=_;rw[ByteArray.size_append,hcs]
    go_wp2
    go_roundg (L.length-(k+1))
    case measure=>omega
    case rel=>exact⟨k+1,h,P,ht,tags,num++Ad c,false,by omega,rfl,rfl,rfl,rfl,by go_num,⟨by omega,by omega,by rw[Hsz.out];omega⟩,(fun h=>by cases h),HE,HWA⟩
   ·rw[if_neg a1]at HE
    by_cases b1:65<=c/\c<=84
    ·rw[if_pos b1]at HE
     obtain⟨b1,b2⟩:=b1;have a2:¬85<=c:=by omega
     have HNU:Hid (∀wx,Calls Tryz.prog 213 #[.string (num++Ad c),.int .i64 ((refs.length:Int)+(tags.length:Int))] wx fun e w'=>e=.returned (.int .i64 (gJ (num++Ad c) (refs.length+tags.length):Nat))/\ab [] wx w'):=fun wx=>by
      have:=Au (num++Ad c) (refs.length+tags.length) wx (by omega);rw[Int.natCast_add]at this;exact this
     have hnle:=vS (num++Ad c) (refs.length+tags.length);obtain⟨nn,Hnn⟩:∃nn,Hid (gJ (num++Ad c) (refs.length+tags.length)=nn):=⟨_,rfl⟩
     rw[Hnn.out]at HNU HE hnle;have hsz:num.size+1<=9223372036854775807:=by omega
     go_upto_region 15 with (go_at_call 213;refine(HNU.out _).mono ?_;rintro e w1 ⟨rfl,k1⟩)
     have HK1:=(show Hid _ from((ab.refl [] wr).alloc _).trans k1);have HW1:=(show Hid _ from HW.out.still HK1.out);have HKW1:=(show Hid _ from HKW.out.trans HK1.out);clear k1 ce0 ce1 ce2 cr0 cr1 cr2 cr3 cr4 cp0 cp1 cp2 cp3 cp4 fr0 Kc JT J5 JU fp0 hzw l0 l1 l2 l3 hgL HNU;obtain⟨⟨ce0,ce1,ce2⟩,⟨cr0,cr1,cr2,cr3,cr4⟩,⟨cp0,cp1,cp2,cp3,cp4⟩,⟨fr0,Kc,JT,J5,JU⟩,fp0,hzw⟩:=HW1.out.cells;obtain⟨hgL,l1,l2,l3⟩:=HLl.out w1 HKW1.out
     by_cases n0:nn=0
     ·rw[if_pos n0]at HE
      subst n0;have HX:Hid (i7 T S refs en L=lQ 5 ⟨c,lf,ll,lc⟩):=HE.out.symm;go_wp2;obtain⟨x0,x1,x2,x3,x4⟩:=ew HW1.out.r (.slice none 0 0) (.int .i64 5) (.string lf) (.int .i64 ll) (.int .i64 lc);exact bodyPost_ret (v:=.agg #[.slice none 0 0,.int .i64 5,.string lf,.int .i64 ll,.int .i64 lc]) (by simp[results,Tryz.results176,go_sem,x0,x1,x2,x3,x4]) rfl (by rw[HX.out];exact fE rfl rfl (((((HKW1.out.setCell (Or.inr (by simp)) _).setCell (Or.inr (by simp)) _).setCell (Or.inr (by simp)) _).setCell (Or.inr (by simp)) _).setCell (Or.inr (by simp)) _))
     ·rw[if_neg n0]at HE
      have n0i:((nn:Int)==0)=false:=by simpa using n0
      by_cases n1:nn<=refs.length
      ·have n1i:(nn:Int)<=(refs.length:Int):=by omega
       obtain⟨q,rfl⟩:∃q,nn=q+1:=⟨nn-1,by omega⟩
       have hqr:q<refs.length:=by omega
       have hqi:(q:Int)<(refs.length:Int):=by omega
       have HSO:Hid (oZ T S refs tags (q+1) ⟨c,lf,ll,lc⟩=⟨(refs[q]:Nat),0,gy T S (refs[q]:Nat),lf,ll,lc⟩):=by
        show _=_
        unfold oZ;rw[if_pos n1,Nat.add_sub_cancel,List.getD_eq_getElem?_getD,List.getElem?_eq_getElem hqr];rfl
       have hrn:=HRR.out refs[q] (List.getElem_mem hqr);obtain⟨gR,rfl,hgR,cq⟩:=(pE.still HR.out HKW1.out) q refs[q] (List.getElem?_eq_getElem hqr);rw[HSO.out]at HE;have HND:Hid (∀wx,ab [] w wx->Calls Tryz.prog 129 #[.pointer (some ⟨b,0,none⟩),.int .i64 (refs[q]:Nat)] wx fun e w'=>e=.returned (.int .i64 (gy T S (refs[q]:Nat):Nat))/\ab [] wx w'):=fun wx kx=>vB b n refs[q] T aoT cT S aoS cS wx (fa.still HD.out kx) HOK.out hrn
       clear HSO;generalize refs[q]=rf at *;generalize gy T S (rf:Nat)=nd at *;obtain⟨W2,HWe⟩:∃W2,Hid (w1.alloc (.cells #[.int .i64 (rf:Int),.int .i64 0,.int .i64 0,.string lf,.int .i64 ll,.int .i64 lc] 162)=W2):=⟨_,rfl⟩
       have kW2:ab [] w1 W2:=by rw[<-HWe.out];exact(ab.refl [] _).alloc _
       have B2:W2.heap[w1.heap.size]?=some (.cells #[.int .i64 (rf:Int),.int .i64 0,.int .i64 0,.string lf,.int .i64 ll,.int .i64 lc] 162 (0,0)):=by rw[<-HWe.out];exact heap_alloc_new _ _
       have HND2:=(show Hid _ from HND.out W2 (HKW1.out.trans kW2));have s0:W2.cell? ⟨w1.heap.size,0,none⟩=some (.int .i64 (rf:Int)):=by rw[aa B2];rfl
       have z2:=ae B2
       go_upto_region 20 with fail
       rw[HWe.out]
       go_upto_region 22 with (go_at_call 129;refine Calls.mono HND2.out ?_;rintro e w2 ⟨rfl,k2⟩;have B3:=k2.get B2 (by simp);have f3:=ak B3 2;have c3:w2.cell? ⟨w1.heap.size,2,none⟩=some (.int .i64 0):=(by rw[aa B3];rfl);have z3:=ae B3)
       obtain⟨W3,HW3e⟩:∃W3,Hid (w2.setCell ⟨w1.heap.size,2,none⟩ (.int .i64 (nd:Int))=W3):=⟨_,rfl⟩
       have kW3:ab [] w1 W3:=by rw[<-HW3e.out];exact(kW2.trans k2).setCell (Or.inr (by simp)) _
       have B4:W3.heap[w1.heap.size]?=some (.cells #[.int .i64 (rf:Int),.int .i64 0,.int .i64 (nd:Int),.string lf,.int .i64 ll,.int .i64 lc] 162 (0,0)):=by rw[<-HW3e.out,ah B3];rfl
       have HW3:=(show Hid _ from HW1.out.still kW3);rw[HW3e.out];clear ce0 ce1 ce2 cr0 cr1 cr2 cr3 cr4 cp0 cp1 cp2 cp3 cp4 fr0 Kc JT J5 JU fp0 hzw;clear B2 B3 kW2 k2 kW3 s0 z2 f3 c3 z3 HW3e HWe HND2 HND cq;obtain⟨⟨ce0,ce1,ce2⟩,⟨cr0,cr1,cr2,cr3,cr4⟩,⟨cp0,cp1,cp2,cp3,cp4⟩,⟨fr0,Kc,JT,J5,JU⟩,fp0,hzw⟩:=HW3.out.cells;have t0:W3.cell? ⟨w1.heap.size,0,none⟩=some (.int .i64 (rf:Int)):=by rw[aa B4];rfl
       have t1:W3.cell? ⟨w1.heap.size,1,none⟩=some (.int .i64 0):=by rw[aa B4];rfl
       have t2:W3.cell? ⟨w1.heap.size,2,none⟩=some (.int .i64 (nd:Int)):=by rw[aa B4];rfl
       have t3:W3.cell? ⟨w1.heap.size,3,none⟩=some (.string lf):=by rw[aa B4];rfl
       have t4:W3.cell? ⟨w1.heap.size,4,none⟩=some (.int .i64 ll):=by rw[aa B4];rfl
       have t5:W3.cell? ⟨w1.heap.size,5,none⟩=some (.int .i64 lc):=by rw[aa B4];rfl
       have t6:=ae B4;have hOw3:=HW3.out.op;have hPb:(dO P).n<=900000000:=by show P.length<=_;omega
       go_wp2_with (at_builtin;refine bX _ rfl (.tmp 103) (.tmp 105) 120 rfl iP (.agg #[.int .i64 0,.int .i64 0,.int .i64 0,.string ⟨#[]⟩,.int .i64 0,.int .i64 0]) 56 h (dO P) [.int .i64 (rf:Int),.int .i64 0,.int .i64 (nd:Int),.string lf,.int .i64 ll,.int .i64 lc] Tryz.underlying120 hiP hzP0 hzP1 hzP2 rfl (show 0<6 by omega) rfl hOw3 hPb (by omega) rfl rfl (qr (⟨(rf:Int),0,nd,lf,ll,lc⟩:cO)) ?_;intro h5 w5 hw5 hg5;rw[show([.int .i64 (rf:Int),.int .i64 0,.int .i64 (nd:Int),.string lf,.int .i64 ll,.int .i64 lc]:List Value)=jS (⟨(rf:Int),0,nd,lf,ll,lc⟩:cO) from rfl,lx]at hw5;have HA:=(show Hid _ from HW3.out.addP (m:=(dO P).n+1) hg5 hw5 (by simp[dO,kg]));have p5:=hg5.kept.get HW3.out.p (fun hq=>by have:=HW3.out.fp _ (aK hq);omega);have f5:=ak p5 0;have c5:w5.cell? ⟨w.heap.size+2,0,none⟩=some (.slice h.ao P.length h.cap):=(by rw[aa p5];rfl);have z5:=ae p5;clear hw5 hg5 p5)
       go_roundg (L.length-(k+1))
       case measure=>omega
       case rel=>exact⟨k+1,h5,P++[⟨(rf:Int),0,nd,lf,ll,lc⟩],ht,tags,⟨#[]⟩,true,by omega,rfl,rfl,rfl,rfl,by go_num,⟨by simp;omega,by omega,Nat.zero_le _⟩,(fun _=>by simp),HE,HA⟩
      ·have n1i:¬(nn:Int)<=(refs.length:Int):=by omega
       obtain⟨q,Hq⟩:∃q,Hid (nn-refs.length-1=q):=⟨_,rfl⟩
       have hqt:q<tags.length:=by have:=Hq.out;omega
       have i1:IntKind.i64.wrap ((nn:Int)-(refs.length:Int))=(nn:Int)-(refs.length:Int):=by rw[IntKind.wrap_i64];omega
       have i2:IntKind.i64.wrap ((nn:Int)-(refs.length:Int)-1)=(nn:Int)-(refs.length:Int)-1:=by rw[IntKind.wrap_i64];omega
       have i3:((nn:Int)-(refs.length:Int)-1).toNat=q:=by have:=Hq.out;omega
       have i4:(0:Int)<=(nn:Int)-(refs.length:Int)-1:=by omega
       have i5:(nn:Int)-(refs.length:Int)-1<(tags.length:Int):=by omega
       have HSO:Hid (oZ T S refs tags nn ⟨c,lf,ll,lc⟩=⟨-2,tags[q],0,lf,ll,lc⟩):=by
        show _=_
        unfold oZ;rw[if_neg n1,Hq.out,List.getD_eq_getElem?_getD,List.getElem?_eq_getElem hqt];rfl
       obtain⟨gt,egt,hgt,cq⟩:=HW1.out.ot.srcN q tags[q] (List.getElem?_eq_getElem hqt);rw[HSO.out]at HE;clear HSO;generalize tags[q]=tg at *;obtain⟨W3,HW3e⟩:∃W3,Hid (w1.alloc (.cells #[.int .i64 (-2),.int .i64 (tg:Int),.int .i64 0,.string lf,.int .i64 ll,.int .i64 lc] 162)=W3):=⟨_,rfl⟩
       have kW3:ab [] w1 W3:=by rw[<-HW3e.out];exact(ab.refl [] _).alloc _
       have B4:W3.heap[w1.heap.size]?=some (.cells #[.int .i64 (-2),.int .i64 (tg:Int),.int .i64 0,.string lf,.int .i64 ll,.int .i64 lc] 162 (0,0)):=by rw[<-HW3e.out];exact heap_alloc_new _ _
       have HW3:=(show Hid _ from HW1.out.still kW3);rw[egt]
       go_upto_region 22 with fail
       rw[HW3e.out];clear ce0 ce1 ce2 cr0 cr1 cr2 cr3 cr4 cp0 cp1 cp2 cp3 cp4 fr0 Kc JT J5 JU fp0 hzw;clear kW3 HW3e cq i1 i2 i3 i4 i5;obtain⟨⟨ce0,ce1,ce2⟩,⟨cr0,cr1,cr2,cr3,cr4⟩,⟨cp0,cp1,cp2,cp3,cp4⟩,⟨fr0,Kc,JT,J5,JU⟩,fp0,hzw⟩:=HW3.out.cells;have t0:W3.cell? ⟨w1.heap.size,0,none⟩=some (.int .i64 (-2)):=by rw[aa B4];rfl
       have t1:W3.cell? ⟨w1.heap.size,1,none⟩=some (.int .i64 (tg:Int)):=by rw[aa B4];rfl
       have t2:W3.cell? ⟨w1.heap.size,2,none⟩=some (.int .i64 0):=by rw[aa B4];rfl
       have t3:W3.cell? ⟨w1.heap.size,3,none⟩=some (.string lf):=by rw[aa B4];rfl
       have t4:W3.cell? ⟨w1.heap.size,4,none⟩=some (.int .i64 ll):=by rw[aa B4];rfl
       have t5:W3.cell? ⟨w1.heap.size,5,none⟩=some (.int .i64 lc):=by rw[aa B4];rfl
       have t6:=ae B4;have hOw3:=HW3.out.op;have hPb:(dO P).n<=900000000:=by show P.length<=_;omega
       go_wp2_with (at_builtin;refine bX _ rfl (.tmp 103) (.tmp 105) 120 rfl iP (.agg #[.int .i64 0,.int .i64 0,.int .i64 0,.string ⟨#[]⟩,.int .i64 0,.int .i64 0]) 56 h (dO P) [.int .i64 (-2),.int .i64 (tg:Int),.int .i64 0,.string lf,.int .i64 ll,.int .i64 lc] Tryz.underlying120 hiP hzP0 hzP1 hzP2 rfl (show 0<6 by omega) rfl hOw3 hPb (by omega) rfl rfl (qr (⟨-2,tg,0,lf,ll,lc⟩:cO)) ?_;intro h5 w5 hw5 hg5;rw[show([.int .i64 (-2),.int .i64 (tg:Int),.int .i64 0,.string lf,.int .i64 ll,.int .i64 lc]:List Value)=jS (⟨-2,tg,0,lf,ll,lc⟩:cO) from rfl,lx]at hw5;have HA:=(show Hid _ from HW3.out.addP (m:=(dO P).n+1) hg5 hw5 (by simp[dO,kg]));have p5:=hg5.kept.get HW3.out.p (fun hq=>by have:=HW3.out.fp _ (aK hq);omega);have f5:=ak p5 0;have c5:w5.cell? ⟨w.heap.size+2,0,none⟩=some (.slice h.ao P.length h.cap):=(by rw[aa p5];rfl);have z5:=ae p5;clear hw5 hg5 p5)
       go_roundg (L.length-(k+1))
       case measure=>omega
       case rel=>exact⟨k+1,h5,P++[⟨-2,tg,0,lf,ll,lc⟩],ht,tags,⟨#[]⟩,true,by omega,rfl,by rw[egt],rfl,rfl,by go_num,⟨by simp;omega,by omega,Nat.zero_le _⟩,(fun _=>by simp),HE,HA⟩
    ·rw[if_neg b1]at HE
     by_cases d1:c=90
     ·subst d1
      cases f
      ·rw[if_neg (by simp),if_neg (by omega)]at HE
       have HX:Hid (i7 T S refs en L=lQ 4 ⟨90,lf,ll,lc⟩):=HE.out.symm;go_wp2;obtain⟨x0,x1,x2,x3,x4⟩:=ew HW.out.r (.slice none 0 0) (.int .i64 4) (.string lf) (.int .i64 ll) (.int .i64 lc);exact bodyPost_ret (v:=.agg #[.slice none 0 0,.int .i64 4,.string lf,.int .i64 ll,.int .i64 lc]) (by simp[results,Tryz.results176,go_sem,x0,x1,x2,x3,x4]) rfl (by rw[HX.out];exact fE rfl rfl (((((HKW.out.setCell (Or.inr (by simp)) _).setCell (Or.inr (by simp)) _).setCell (Or.inr (by simp)) _).setCell (Or.inr (by simp)) _).setCell (Or.inr (by simp)) _))
      ·rw[if_pos ⟨rfl,rfl⟩]at HE
       have hP0:=HF.out rfl;have hpe:((P.length-1:Nat):Int)=(P.length:Int)-1:=by omega
       have hwp:IntKind.i64.wrap ((P.length:Int)-1)=(P.length:Int)-1:=by rw[IntKind.wrap_i64];omega
       have hOt:=HW.out.ot;have hTb:(bq tags).n<=900000000:=by show tags.length<=_;omega
       go_wp2_with (at_builtin;refine bX _ rfl (.tmp 114) (.tmp 119) 26 rfl iN (.int .i64 0) 8 ht (bq tags) [.int .i64 ((P.length:Int)-1)] Tryz.underlying26 hiN hzN0 hzN1 hzN2 rfl Nat.one_pos rfl hOt hTb (by omega) rfl rfl (by simp[Value.oneCell']) ?_;intro h5 w5 hw5 hg5;rw[<-hpe,qh]at hw5;have HA:=(show Hid _ from HW.out.addT hg5 hw5);clear hw5 hg5)
       go_roundg (L.length-(k+1))
       case measure=>omega
       case rel=>exact⟨k+1,h,P,h5,tags++[P.length-1],num,false,by omega,rfl,by simp[bq],rfl,rfl,by go_num,⟨by omega,by simp;omega,by omega⟩,(fun h=>by cases h),HE,HA⟩
     ·have d1b:(c==90)=false:=by simpa using d1
      rw[if_neg (fun h=>d1 h.1)]at HE
      by_cases e1:c=63
      ·subst e1
       cases hnm:(num.toList == [])
       ·rw[if_neg (by rw[hnm];simp)]at HE
        have HX:Hid (i7 T S refs en L=lQ 4 ⟨63,lf,ll,lc⟩):=HE.out.symm;go_wp2;obtain⟨x0,x1,x2,x3,x4⟩:=ew HW.out.r (.slice none 0 0) (.int .i64 4) (.string lf) (.int .i64 ll) (.int .i64 lc);exact bodyPost_ret (v:=.agg #[.slice none 0 0,.int .i64 4,.string lf,.int .i64 ll,.int .i64 lc]) (by simp[results,Tryz.results176,go_sem,x0,x1,x2,x3,x4]) rfl (by rw[HX.out];exact fE rfl rfl (((((HKW.out.setCell (Or.inr (by simp)) _).setCell (Or.inr (by simp)) _).setCell (Or.inr (by simp)) _).setCell (Or.inr (by simp)) _).setCell (Or.inr (by simp)) _))
       ·rw[if_pos ⟨rfl,hnm⟩]at HE
        have hOw3:=HW.out.op;have hPb:Hid ((dO P).n<=900000000):=by show P.length<=_;omega
        have HPn:Hid ((dO P).n=P.length):=rfl
        go_upto_region 29 with fail
        go_region_law (refine bD wr rfl (.tmp 129) (.tmp 136) 120 rfl iP (.agg #[.int .i64 0,.int .i64 0,.int .i64 0,.string ⟨#[]⟩,.int .i64 0,.int .i64 0]) 56 h (dO P) [.int .i64 (-1),.int .i64 0,.int .i64 0,.string lf,.int .i64 ll,.int .i64 lc] Tryz.underlying120 hiP hzP0 hzP1 hzP2 rfl (show 0<6 by omega) (by rw[HPn.out];simp[Act.eval]) hOw3 hPb.out (by omega) (by simp[Act.eval]) rfl (qr (⟨-1,0,0,lf,ll,lc⟩:cO)) ?_;intro ao5 cap5 w5 hw5 hg5;have p5:=hg5.kept.get HW.out.p (fun hq=>by have:=HW.out.fp _ (aK hq);omega);have f5:=ak p5 0;have c5:w5.cell? ⟨w.heap.size+2,0,none⟩=some (.slice h.ao P.length h.cap):=(by rw[aa p5];rfl);have z5:=ae p5)
        all_goals
         rw[show([.int .i64 (-1),.int .i64 0,.int .i64 0,.string lf,.int .i64 ll,.int .i64 lc]:List Value)=jS (⟨-1,0,0,lf,ll,lc⟩:cO) from rfl,lx]at hw5;have HA:=(show Hid _ from HW.out.addP (m:=(dO P).n+1) hg5 hw5 (by simp[dO,kg]));clear hw5 hg5 p5 f5 c5 z5;go_wp2
         go_roundg (L.length-(k+1))
         case measure=>omega
         case rel=>exact⟨k+1,⟨ao5,cap5⟩,P++[⟨-1,0,0,lf,ll,lc⟩],ht,tags,num,false,by omega,rfl,rfl,rfl,rfl,by go_num,⟨by simp;omega,by omega,by omega⟩,(fun h=>by cases h),HE,HA⟩
      ·have e1b:(c==63)=false:=by simpa using e1
       rw[if_neg (fun h=>e1 h.1)]at HE;have HX:Hid (i7 T S refs en L=lQ 4 ⟨c,lf,ll,lc⟩):=HE.out.symm
       by_cases f1:85<=c
       ·have f2:¬c<=89:=fun h=>a1 ⟨f1,h⟩
        have f3:65<=c:=by omega
        have f4:¬c<=84:=by omega
        go_wp2;obtain⟨x0,x1,x2,x3,x4⟩:=ew HW.out.r (.slice none 0 0) (.int .i64 4) (.string lf) (.int .i64 ll) (.int .i64 lc);exact bodyPost_ret (v:=.agg #[.slice none 0 0,.int .i64 4,.string lf,.int .i64 ll,.int .i64 lc]) (by simp[results,Tryz.results176,go_sem,x0,x1,x2,x3,x4]) rfl (by rw[HX.out];exact fE rfl rfl (((((HKW.out.setCell (Or.inr (by simp)) _).setCell (Or.inr (by simp)) _).setCell (Or.inr (by simp)) _).setCell (Or.inr (by simp)) _).setCell (Or.inr (by simp)) _))
       ·by_cases f3:65<=c
        ·exact absurd ⟨f3,by omega⟩ b1
        ·skip
         go_wp2;obtain⟨x0,x1,x2,x3,x4⟩:=ew HW.out.r (.slice none 0 0) (.int .i64 4) (.string lf) (.int .i64 ll) (.int .i64 lc);exact bodyPost_ret (v:=.agg #[.slice none 0 0,.int .i64 4,.string lf,.int .i64 ll,.int .i64 lc]) (by simp[results,Tryz.results176,go_sem,x0,x1,x2,x3,x4]) rfl (by rw[HX.out];exact fE rfl rfl (((((HKW.out.setCell (Or.inr (by simp)) _).setCell (Or.inr (by simp)) _).setCell (Or.inr (by simp)) _).setCell (Or.inr (by simp)) _).setCell (Or.inr (by simp)) _))
  ·have e:k=L.length:=by omega
   subst e;rw[List.drop_length,lG]at HE
   cases hnm:(num.toList == [])
   ·rw[if_pos hnm]at HE
    have HX:Hid (i7 T S refs en L=lQ 4 en):=HE.out.symm;obtain⟨ec,ef,el,eo⟩:=en;go_wp2;obtain⟨x0,x1,x2,x3,x4⟩:=ew HW.out.r (.slice none 0 0) (.int .i64 4) (.string ef) (.int .i64 el) (.int .i64 eo);exact bodyPost_ret (v:=.agg #[.slice none 0 0,.int .i64 4,.string ef,.int .i64 el,.int .i64 eo]) (by simp[results,Tryz.results176,go_sem,x0,x1,x2,x3,x4]) rfl (by rw[HX.out];exact fE rfl rfl (((((HKW.out.setCell (Or.inr (by simp)) _).setCell (Or.inr (by simp)) _).setCell (Or.inr (by simp)) _).setCell (Or.inr (by simp)) _).setCell (Or.inr (by simp)) _))
   ·rw[if_neg (by rw[hnm];simp)]at HE
    by_cases hp0:P.length=0
    ·rw[if_pos hp0]at HE
     have HX:Hid (i7 T S refs en L=lQ 1 en):=HE.out.symm;have hpi:((P.length:Int)==0)=true:=by simpa using hp0
     obtain⟨ec,ef,el,eo⟩:=en;go_wp2;obtain⟨x0,x1,x2,x3,x4⟩:=ew HW.out.r (.slice none 0 0) (.int .i64 1) (.string ef) (.int .i64 el) (.int .i64 eo);exact bodyPost_ret (v:=.agg #[.slice none 0 0,.int .i64 1,.string ef,.int .i64 el,.int .i64 eo]) (by simp[results,Tryz.results176,go_sem,x0,x1,x2,x3,x4]) rfl (by rw[HX.out];exact fE rfl rfl (((((HKW.out.setCell (Or.inr (by simp)) _).setCell (Or.inr (by simp)) _).setCell (Or.inr (by simp)) _).setCell (Or.inr (by simp)) _).setCell (Or.inr (by simp)) _))
    ·rw[if_neg hp0]at HE
     have HX:Hid (i7 T S refs en L=⟨P,0,⟨#[]⟩,0,0⟩):=HE.out.symm;have hpi:((P.length:Int)==0)=false:=by simpa using hp0
     have HNE:Hid (∀q,h.blk=some q->q≠w.heap.size+1):=fun q hq=>by have:=HW.out.fp q hq;omega
     go_wp2;obtain⟨x0,x1,x2,x3,x4⟩:=ew HW.out.r (.slice h.ao P.length h.cap) (.int .i64 0) (.string ⟨#[]⟩) (.int .i64 0) (.int .i64 0);exact bodyPost_ret (v:=.agg #[.slice h.ao P.length h.cap,.int .i64 0,.string ⟨#[]⟩,.int .i64 0,.int .i64 0]) (by simp[results,Tryz.results176,go_sem,x0,x1,x2,x3,x4]) rfl (by rw[HX.out];exact⟨h,rfl,⟨((((HW.out.op.aside HNE.out _ _).aside HNE.out _ _).aside HNE.out _ _).aside HNE.out _ _).aside HNE.out _ _,fun q hq=>(by have:=HW.out.fp q hq;omega),((((HKW.out.setCell (Or.inr (by simp)) _).setCell (Or.inr (by simp)) _).setCell (Or.inr (by simp)) _).setCell (Or.inr (by simp)) _).setCell (Or.inr (by simp)) _⟩⟩)
end Go.Proofs.YtpddjjabfbfifaaGreat
