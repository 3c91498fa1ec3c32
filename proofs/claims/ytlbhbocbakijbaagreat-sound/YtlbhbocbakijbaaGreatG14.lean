import Derived.Deep.RegionHeld3
import Derived.Test.YtlbhbocbakijbaaGreatG13
namespace Go.Proofs.YtlbhbocbakijbaaGreat
open Go.RowKit
set_option maxHeartbeats 0
def aY(c:gG)(n:Nat)(p:Pl):Int×gG :=
 if 65<=n/\n<=84 then fc c (n-64) p
 else if 85<=n/\n<=89 then(0,gC c (n-84))
 else if n=90/\c.behind=true then(0,{ c with tagged:=c.tagged++[c.steps.length-1],behind:=false })
 else if n=63/\c.digits=0 then(0,cH c ⟨1,0,p⟩)
 else(4,c)
set_option maxRecDepth 100000 in
theorem qo(b:Nat)(c:gG)(H:Nat->Hd)(n:Nat)(f:ByteArray)(l co:Int)(w:World)(h:cB w b c H)(ok:dU c 10000000)(hn:n<256) :
  Calls Tryz.prog 155 #[.pointer (some ⟨b,0,none⟩),.int .u8 n,.agg #[.string f,.int .i64 l,.int .i64 co]] w fun e w'=>e=.returned (.int .i64 (aY c n ⟨f,l,co⟩).1)/\∃H',cB w' b (aY c n ⟨f,l,co⟩).2 H'/\ag b w H w' H':=by
 have hsl:=ok.steps;have htl:=ok.tagged;obtain⟨W,HW,K,B,p0,p1,p2⟩:=Bs w f l co;have hC:=h.still K;clear h;obtain⟨c0,c1,c2,c3,c4⟩:=hC.cells;have hfr:=af.free hC;have hbW:=af.lt hC
 by_cases h1:65<=n/\n<=84
 ·have HT:Hid (aY c n ⟨f,l,co⟩=fc c (n-64) ⟨f,l,co⟩):=if_pos h1
  have EN:=fun(w':World) (h':cB w' b c H)=>oL b c H (n-64) f l co w' h' ok (by omega) (by omega)
  have HEN:=(show Hid _ from EN);obtain⟨a1,a2⟩:=h1;have he:(n:Int)-65+1=((n-64:Nat):Int):=by omega
  clear EN c0 c1 c2 c3 c4;generalize hq:n-64=q at *;go_enter Tryz.func155,Tryz.ntmps155
  go_upto_region 1 with fail
  rw[HW.out];go_wp2_with fail;refine(HEN.out _ hC).mono ?_;rintro e w2 ⟨rfl,H2,D2,T2⟩;go_wp2;go_ret;exact⟨ar (by rw[HT.out]),H2,by rw[HT.out];exact D2,ag.first K T2⟩
 ·by_cases h2:85<=n/\n<=89
  ·have HT:Hid (aY c n ⟨f,l,co⟩=(0,gC c (n-84))):=by show _=_;unfold aY;rw[if_neg h1,if_pos h2]
   obtain⟨a1,a2⟩:=h2;have TD:=fun(w':World) (h':cB w' b c H)=>qN b c H (n-84) w' h' ok (by omega)
   have HTD:=(show Hid _ from TD);have he:(n:Int)-85+1=((n-84:Nat):Int):=by omega
   have h1':¬n<=84:=by omega
   clear TD c0 c1 c2 c3 c4 h1;generalize hq:n-84=q at *;go_enter Tryz.func155,Tryz.ntmps155
   go_upto_region 1 with fail
   rw[HW.out];go_wp2_with fail;refine(HTD.out _ hC).mono ?_;rintro e w2 ⟨rfl,D2,T2⟩;go_wp2;go_ret;exact⟨ar (by rw[HT.out]),H,by rw[HT.out];exact D2,ag.first K T2⟩
  ·by_cases h3:n=90/\c.behind=true
   ·have HT:Hid (aY c n ⟨f,l,co⟩=(0,{ c with tagged:=c.tagged++[c.steps.length-1],behind:=false })):=by show _=_;unfold aY;rw[if_neg h1,if_neg h2,if_pos h3]
    obtain⟨rfl,hbh⟩:=h3;have hpos:=ok.behind hbh;rw[hbh]at c4;obtain⟨sl,hsl'⟩:∃sl,c.steps.length-1=sl:=⟨_,rfl⟩
    have he:(c.steps.length:Int)-1=(sl:Int):=by omega
    rw[hsl']at HT;have hwr:IntKind.i64.wrap (sl:Int)=(sl:Int):=by rw[IntKind.wrap_i64];omega
    obtain⟨i0,hi,hz0,hz1,hz2⟩:=info_parts fU;have hD:Hid (cB (W.alloc (.cells #[.int .i64 sl] 3)).drew b c H):=hC.still ((aa.refl [] W).alloc _).drew
    have s2:Hid (∀j u,([.int .i64 sl]:List Value)[j]?=some u->(W.alloc (.cells #[.int .i64 sl] 3)).drew.cell? ((⟨W.heap.size,0,none⟩:Addr).add j)=some u):=by
     intro j u hj;have hk:(W.alloc (.cells #[.int .i64 sl] 3)).drew.heap[W.heap.size]?=some (.cells #[.int .i64 sl] 3 (0,0)):=heap_alloc_new _ _;rw[aV,ab hk];simpa using hj
    have s3:Hid (∀u∈([.int .i64 sl]:List Value),u.oneCell'=true):=by intro u hu;simp at hu;subst hu;rfl
    have s4:Hid ((aP c.tagged).n+1<=maxLen):=by show _<=_;simp only[aP];unfold maxLen;omega
    have s5:Hid (((aP c.tagged).n+1)*8<=140737488355328):=by show _<=_;simp only[aP];omega
    have hrw:Hid (∀j,j≠1->pX { c with tagged:=c.tagged++[sl] } j=pX c j):=by
     intro j hj
     match j,hj with
     | 0,_=>rfl
     | 1,hj=>exact absurd rfl hj
     | 2,_=>rfl
     | m+3,_=>rfl
    clear c0 c3 h1 h2 p0 p1 p2;go_enter Tryz.func155,Tryz.ntmps155
    go_upto_region 1 with fail
    rw[HW.out];go_wp2_with fail
    go_region_law (refine aC rfl (.tmp 44) (.tmp 51) 33 rfl i0 (.int .i64 0) 8 (H 1) (aP c.tagged) Tryz.underlying33 hi hz0 hz1 hz2 rfl Nat.one_pos (by simp[Act.eval] <;> rfl) (af.own hD.out 1) ⟨W.heap.size,0,none⟩ 1 1 [.int .i64 sl] (by simp[Act.eval]) rfl s2.out s3.out Nat.one_pos s4.out s5.out ?_;intro g cap' w1 hw1 hgr hfresh;obtain⟨k5,f5,HP⟩:=af.app hD.out (cs':=gP { c with tagged:=c.tagged++[sl] } (cG H 1 ⟨some ⟨g,0,none⟩,cap'⟩)) (rows':=pX { c with tagged:=c.tagged++[sl] }) 1 1 g cap' ((aP c.tagged).n+1) _ hw1 (gL c.tagged sl) hgr (by simpa using hfresh) hrw.out (.slice (H 1).ao c.tagged.length (H 1).cap) rfl (by simp[gP,cG,aP]);clear hw1 hgr hfresh)
    all_goals
     have D2:=(show Hid _ from af.set HP.out.1 4 (.bool false));have hb4:=(af.cell HP.out.1 4);have hf4:=af.free HP.out.1;simp only[gP,List.getElem?_cons_succ,List.getElem?_cons_zero,hbh]at hb4;clear c1 c2 c4 hfr k5 f5;go_wp2;go_ret;exact⟨ar (by rw[HT.out]),_,by rw[HT.out];exact D2.out.1,((HP.out.2.first ((aa.refl [] _).alloc _).drew).first K).trans D2.out.2⟩
   ·by_cases h4:n=63/\c.digits=0
    ·have HT:Hid (aY c n ⟨f,l,co⟩=(0,cH c ⟨1,0,⟨f,l,co⟩⟩)):=by show _=_;unfold aY;rw[if_neg h1,if_neg h2,if_neg h3,if_pos h4]
     obtain⟨rfl,hdz⟩:=h4;rw[hdz]at c3;clear c0 c1 c2 h1 h2 h3;go_enter Tryz.func155,Tryz.ntmps155
     go_upto_region 1 with fail
     rw[HW.out];go_wp2_with fail;refine(jY b c H 1 0 f l co _ hC ok).mono ?_;rintro e w2 ⟨rfl,H2,D2,T2,-⟩;go_wp2;go_ret;exact⟨ar (by rw[HT.out]),H2,by rw[HT.out];exact D2,ag.first K T2⟩
    ·have HT:Hid (aY c n ⟨f,l,co⟩=(4,c)):=by show _=_;unfold aY;rw[if_neg h1,if_neg h2,if_neg h3,if_neg h4]
     clear c0 c1 c2
     by_cases e90:n=90
     ·have hbh:c.behind=false:=by
       cases hq:c.behind with
       | false=>rfl
       | true=>exact absurd ⟨e90,hq⟩ h3
      rw[hbh]at c4;subst e90;clear h1 h2 h3 h4;go_enter Tryz.func155,Tryz.ntmps155
      go_upto_region 1 with fail
      rw[HW.out];go_wp2;go_ret;exact⟨ar (by rw[HT.out]),H,by rw[HT.out];exact hC,(ag.refl _ _ _).still K⟩
     ·by_cases e63:n=63
      ·have hdz:¬c.digits=0:=fun hh=>h4 ⟨e63,hh⟩
       have hdz':((c.digits:Int)==0)=false:=beq_eq_false_iff_ne.2 (by omega);subst e63;clear h1 h2 h3 h4 hdz;go_enter Tryz.func155,Tryz.ntmps155
       go_upto_region 1 with fail
       rw[HW.out];go_wp2;go_ret;exact⟨ar (by rw[HT.out]),H,by rw[HT.out];exact hC,(ag.refl _ _ _).still K⟩
      ·have e1:((n:Int)==90)=false:=beq_eq_false_iff_ne.2 (by omega)
       have e2:((n:Int)==63)=false:=beq_eq_false_iff_ne.2 (by omega);clear h3 h4 c3 c4
       by_cases a1:65<=n
       ·have a2:¬n<=84:=by omega
        have a3:85<=n:=by omega
        have a4:¬n<=89:=by omega
        clear h1 h2;go_enter Tryz.func155,Tryz.ntmps155
        go_upto_region 1 with fail
        rw[HW.out];go_wp2;go_ret;exact⟨ar (by rw[HT.out]),H,by rw[HT.out];exact hC,(ag.refl _ _ _).still K⟩
       ·have a3:¬85<=n:=by omega
        clear h1 h2;go_enter Tryz.func155,Tryz.ntmps155
        go_upto_region 1 with fail
        rw[HW.out];go_wp2;go_ret;exact⟨ar (by rw[HT.out]),H,by rw[HT.out];exact hC,(ag.refl _ _ _).still K⟩
theorem dU.letter{c:gG}{N:Nat}(h:dU c N)(n:Nat)(p:Pl):dU (aY c n p).2 (N+1):=by
  have h1:=h.names;have h2:=h.tagged;have h3:=h.steps;have h4:=h.digits;have h5:=h.behind;unfold aY
  split
  · unfold fc cH
    split
    · exact⟨by simp only;omega,by simp only;omega,by simp;omega,by simp,by simp⟩
    · split
      · exact⟨by simp only;omega,by simp only;omega,by simp;omega,by simp,by simp⟩
      · exact⟨by simp only;omega,by simp only;omega,by simp only;omega,by simp,h5⟩
  · split
    · next hc =>
      unfold gC
      split
      · exact⟨by simp only;omega,by simp only;omega,by simp only;omega,by simp only;omega,by simp⟩
      · exact⟨by simp only;omega,by simp only;omega,by simp only;omega,by simp only;omega,by simp⟩
    · split
      · exact⟨by simp only;omega,by simp;omega,by simp only;omega,by simp only;omega,by simp⟩
      · split
        · exact⟨by simp only[cH];omega,by simp only[cH];omega,by simp[cH];omega,by simp only[cH];omega,by simp[cH]⟩
        · exact⟨by simp only;omega,by simp only;omega,by simp only;omega,by simp only;omega,h5⟩
def cX(t:ByteArray)(p:Pl):Nat->Nat->gG->lW×gG
  | 0,_,c=>(bT,c)
  | f+1,j,c =>
    if j<t.size then
      (if((aY c (aw t j).toNat { p with col:=p.col+j }).1==0)=true then cX t p f (j+1) (aY c (aw t j).toNat { p with col:=p.col+j }).2
       else(((aY c (aw t j).toNat { p with col:=p.col+j }).1,{ p with col:=p.col+j }),(aY c (aw t j).toNat { p with col:=p.col+j }).2))
    else(bT,c)
def gN(t:ByteArray)(p:Pl)(c:gG):lW×gG:=cX t p (t.size+1) 0 c
theorem Gu(t:ByteArray)(p:Pl)(f j:Nat)(c:gG)(hj:j<t.size)(h:((aY c (aw t j).toNat { p with col:=p.col+j }).1==0)=true) :
    cX t p (f+1) j c=cX t p f (j+1) (aY c (aw t j).toNat { p with col:=p.col+j }).2:=by rw[cX,if_pos hj,if_pos h]
theorem ET(t:ByteArray)(p:Pl)(f j:Nat)(c:gG)(hj:j<t.size)(h:((aY c (aw t j).toNat { p with col:=p.col+j }).1==0)=false) :
    cX t p (f+1) j c=(((aY c (aw t j).toNat { p with col:=p.col+j }).1,{ p with col:=p.col+j }),(aY c (aw t j).toNat { p with col:=p.col+j }).2):=by rw[cX,if_pos hj,if_neg (by rw[h];simp)]
theorem FI(t:ByteArray)(p:Pl)(f j:Nat)(c:gG)(hj:¬j<t.size):cX t p (f+1) j c=(bT,c):=by rw[cX,if_neg hj]
theorem bI{w:World}{r:Nat}(h:w.heap[r]?=some (.cells aO 167 (0,0))) :
    w.cell? ⟨r,0,none⟩=some (.int .i64 0)/\w.cell? ⟨r,1,none⟩=some (.string ⟨#[]⟩)/\w.cell? ⟨r,2,none⟩=some (.int .i64 0)/\w.cell? ⟨r,3,none⟩=some (.int .i64 0):=by
  refine⟨?_,?_,?_,?_⟩ <;> (rw[ab h];rfl)
theorem om{w w2:World}{b t F:Nat}{cs:List Value}{rows:Nat->eI}{H H2:Nat->Hd}(D:af w2 b t cs rows H2)(T:ag b w H w2 H2)(h1:w.heap.size<=F)(h2:b≠F)(h3:¬cK H2 F)(a0 a1 a2 a3:Value) :
    af ((((w2.setCell ⟨F,0,none⟩ a0).setCell ⟨F,1,none⟩ a1).setCell ⟨F,2,none⟩ a2).setCell ⟨F,3,none⟩ a3) b t cs rows H2 /\
    ag b w H ((((w2.setCell ⟨F,0,none⟩ a0).setCell ⟨F,1,none⟩ a1).setCell ⟨F,2,none⟩ a2).setCell ⟨F,3,none⟩ a3) H2:=by
  refine⟨D.kept (fe _ _ _ _) (by simpa using h2) (fun x hx=>by simp;rintro rfl;exact h3 hx),?_,T.2⟩;exact(((T.1.setCell (Or.inr h1) _).setCell (Or.inr h1) _).setCell (Or.inr h1) _).setCell (Or.inr h1) _
set_option maxRecDepth 100000 in
theorem ti(b:Nat)(c:gG)(H:Nat->Hd)(t f:ByteArray)(l co:Int)(w:World)(h:cB w b c H)(N:Nat)(ok:dU c N)(hN:N+t.size<=10000000)(hco:-1000000000<=co/\co<=1000000000) :
    Calls Tryz.prog 135 #[.pointer (some ⟨b,0,none⟩),.agg #[.string t,.string f,.int .i64 l,.int .i64 co]] w fun e w'=>e=.returned (eM (gN t ⟨f,l,co⟩ c).1)/\∃H',cB w' b (gN t ⟨f,l,co⟩ c).2 H'/\ag b w H w' H':=by
  obtain⟨W,hW⟩:∃W,W=(w.alloc (.cells #[.string t,.string f,.int .i64 l,.int .i64 co] 199)).alloc (.cells #[.int .i64 0,.string ⟨#[]⟩,.int .i64 0,.int .i64 0] 167):=⟨_,rfl⟩
  have K:aa [] w W:=by rw[hW];exact((aa.refl [] _).alloc _).alloc _
  have BW:W.heap[w.heap.size]?=some (.cells #[.string t,.string f,.int .i64 l,.int .i64 co] 199 (0,0)):=by rw[hW];exact((aa.refl [] _).alloc _).get (heap_alloc_new _ _) (by simp)
  have BF:W.heap[w.heap.size+1]?=some (.cells aO 167 (0,0)):=by
    rw[hW];have:=heap_alloc_new (w.alloc (.cells #[.string t,.string f,.int .i64 l,.int .i64 co] 199)) (.cells #[.int .i64 0,.string ⟨#[]⟩,.int .i64 0,.int .i64 0] 167);simpa [aO] using this
  have hWs:W.heap.size=w.heap.size+2:=by rw[hW];simp
  have hbw:=af.lt h;have HNI:Hid (∀k,w.heap.size<=k->¬cK H k):=fun k hk hm=>by have:=af.inlt h hm;omega
  have hC:=h.still K;have HW:=(show Hid _ from hW.symm);have u0:W.cell? ⟨w.heap.size,0,none⟩=some (.string t):=by rw[ab BW];rfl
  have u1:W.cell? ⟨w.heap.size,1,none⟩=some (.string f):=by rw[ab BW];rfl
  have u2:W.cell? ⟨w.heap.size,2,none⟩=some (.int .i64 l):=by rw[ab BW];rfl
  have u3:W.cell? ⟨w.heap.size,3,none⟩=some (.int .i64 co):=by rw[ab BW];rfl
  clear hW;go_enter Tryz.func135,Tryz.ntmps135
  go_upto_region 1 with fail
  rw[HW.out];go_wp2
  go_loopg [6] t.size (fun gk i wr=>∃(j:Nat) (c':gG) (H':Nat->Hd) (fu:Nat),j<=t.size/\gk=t.size-j/\i=.int .i64 j/\dU c' (N+j)/\t.size-j+1<=fu/\Hid (gN t ⟨f,l,co⟩ c=cX t ⟨f,l,co⟩ fu j c')/\cB wr b c' H'/\ag b w H wr H' /\
    wr.heap[w.heap.size]?=some (.cells #[.string t,.string f,.int .i64 l,.int .i64 co] 199 (0,0))/\wr.heap[w.heap.size+1]?=some (.cells aO 167 (0,0))/\wr.heap[w.heap.size+2]?=some (.cells #[.string f,.int .i64 l,.int .i64 (co+j)] 46 (0,0))/\¬cK H' w.heap.size/\¬cK H' (w.heap.size+1)/\¬cK H' (w.heap.size+2))
  case atStart =>
    refine⟨0,c,H,t.size+1,by omega,by omega,rfl,ok,by omega,rfl,hC.still ((aa.refl [] _).alloc _),(ag.refl _ _ _).still (K.alloc _),((aa.refl [] _).alloc _).get BW (by simp),((aa.refl [] _).alloc _).get BF (by simp),?_,HNI.out _ (by omega),HNI.out _ (by omega),HNI.out _ (by omega)⟩;rw[<-hWs];have:=heap_alloc_new W (.cells #[.string f,.int .i64 l,.int .i64 co] 46);simpa using this
  case round =>
    obtain⟨j,c',H',fu,hj,hg,rfl,ok',hfu,hR,hC',hT,B1,B2,B3,n1,n2,n3⟩:=hrel;clear u0 u1 u2 u3 BW BF hC HW;have u0:wr.cell? ⟨w.heap.size,0,none⟩=some (.string t):=by rw[ab B1];rfl
    have v0:wr.cell? ⟨w.heap.size+2,0,none⟩=some (.string f):=by rw[ab B3];rfl
    have v1:wr.cell? ⟨w.heap.size+2,1,none⟩=some (.int .i64 l):=by rw[ab B3];rfl
    have v2:wr.cell? ⟨w.heap.size+2,2,none⟩=some (.int .i64 (co+j)):=by rw[ab B3];rfl
    obtain⟨fu',rfl⟩:∃fu',fu=fu'+1:=⟨fu-1,by omega⟩
    by_cases hlt:j<t.size
    · have hbt:(aw t j).toNat=t[j].toNat:=by rw[aU t j hlt];rfl
      have L1:=Gu t ⟨f,l,co⟩ fu' j c' hlt;have L2:=ET t ⟨f,l,co⟩ fu' j c' hlt;have OKN:=ok'.letter t[j].toNat { (⟨f,l,co⟩:Pl) with col:=co+j };have h256:t[j].toNat<256:=UInt8.toNat_lt _;have TL:=fun(w':World) (h':cB w' b c' H')=>qo b c' H' t[j].toNat f l (co+j) w' h' ⟨by have:=ok'.names;omega,by have:=ok'.tagged;omega,by have:=ok'.steps;omega,by have:=ok'.digits;omega,ok'.behind⟩ h256
      rw[hbt]at L1 L2;simp only at L1 L2 OKN;have HL1:=(show Hid _ from L1);have HL2:=(show Hid _ from L2);have HTL:=(show Hid _ from TL);clear L1 L2 TL hbt;generalize aY c' t[j].toNat ⟨f,l,co + ↑j⟩=Q at *;obtain⟨r,c2⟩:=Q;simp only at HL1 HL2 HTL OKN
      have HCE:Hid (∀(w9:World) (H9:Nat->Hd) (_:ag b wr.drew H' w9 H9),w9.heap[w.heap.size]?=some (.cells #[.string t,.string f,.int .i64 l,.int .i64 co] 199 (0,0))/\w9.heap[w.heap.size+1]?=some (.cells aO 167 (0,0))/\w9.heap[w.heap.size+2]?=some (.cells #[.string f,.int .i64 l,.int .i64 (co+j)] 46 (0,0))):=by
        intro w9 H9 T9;exact⟨T9.1.get (by exact B1) (by rintro (e | e);omega;exact n1 e),T9.1.get (by exact B2) (by rintro (e | e);omega;exact n2 e),T9.1.get (by exact B3) (by rintro (e | e);omega;exact n3 e)⟩
      have HCC:Hid (∀(w9:World) (H9:Nat->Hd) (_:ag b wr.drew H' w9 H9),w9.cell? ⟨w.heap.size,0,none⟩=some (.string t)/\w9.cell? ⟨w.heap.size+2,0,none⟩=some (.string f)/\w9.cell? ⟨w.heap.size+2,1,none⟩=some (.int .i64 l)/\w9.cell? ⟨w.heap.size+2,2,none⟩=some (.int .i64 (co+j))):=by
        intro w9 H9 T9;obtain⟨q1,q2,q3⟩:=HCE.out w9 H9 T9;refine⟨by rw[ab q1];rfl,by rw[ab q3];rfl,by rw[ab q3];rfl,by rw[ab q3];rfl⟩
      have hs1:=ac B1;have hs2:=ac B2;have hs3:=ac B3
      cases hr:(r==0)
      · have hr':(r != 0)=true:=by simp[bne,hr]
        have HF:=(show Hid _ from hR.out.trans (HL2.out hr));clear hR HL1 HL2
        go_upto_region 5 with fail
        go_region_held3 (fun w'=>w'.cell? ⟨w.heap.size,0,none⟩=some (.string t)/\w'.cell? ⟨w.heap.size+2,0,none⟩=some (.string f)/\w'.cell? ⟨w.heap.size+2,1,none⟩=some (.int .i64 l)/\w'.cell? ⟨w.heap.size+2,2,none⟩=some (.int .i64 (co+j))) (go_keep) (first | (go_at_call 155;refine(HTL.out _ (by exact hC'.still (aa.refl [] _).drew)).mono ?_;rintro e w9 ⟨rfl,H9,D9,T9⟩;obtain⟨x0,x1,x2,x3⟩:=HCC.out w9 H9 T9))
        all_goals
          obtain⟨q1,q2,q3⟩:=HCE.out w9 H9 T9;obtain⟨j0,j1,j2,j3⟩:=bI q2;have y:=an q2;have m2:=T9.fresh (w.heap.size+1) (by exact hs2) n2;have HA:=(show Hid _ from fun a0 a1 a2 a3=>om D9 (hT.trans (ag.first (aa.refl [] _).drew T9)) (F:=w.heap.size+1) (by omega) (by omega) m2 a0 a1 a2 a3);go_wp2
          exact bodyPost_ret (v:=.agg #[.int .i64 r,.string f,.int .i64 l,.int .i64 (co+j)]) (by simp[results,Tryz.results135,go_sem,j0,j1,j2,j3]) rfl
            ⟨by rw[HF.out];rfl,H9,by rw[HF.out];exact(HA.out _ _ _ _).1,(HA.out _ _ _ _).2⟩
      · have hr':(r != 0)=false:=by simp[bne,hr]
        have HF:=(show Hid _ from hR.out.trans (HL1.out hr));clear hR HL1 HL2
        go_upto_region 5 with fail
        go_region_held3 (fun w'=>w'.cell? ⟨w.heap.size,0,none⟩=some (.string t)/\w'.cell? ⟨w.heap.size+2,0,none⟩=some (.string f)/\w'.cell? ⟨w.heap.size+2,1,none⟩=some (.int .i64 l)/\w'.cell? ⟨w.heap.size+2,2,none⟩=some (.int .i64 (co+j))) (go_keep) (first | (go_at_call 155;refine(HTL.out _ (by exact hC'.still (aa.refl [] _).drew)).mono ?_;rintro e w9 ⟨rfl,H9,D9,T9⟩;obtain⟨x0,x1,x2,x3⟩:=HCC.out w9 H9 T9))
        all_goals
          obtain⟨q1,q2,q3⟩:=HCE.out w9 H9 T9;have y:=an q3;have m1:=T9.fresh w.heap.size (by exact hs1) n1;have m2:=T9.fresh (w.heap.size+1) (by exact hs2) n2;have m3:=T9.fresh (w.heap.size+2) (by exact hs3) n3;have T9':=hT.trans (ag.first (aa.refl [] _).drew T9);go_wp2
          go_roundg (t.size-(j+1))
          case measure=>omega
          case rel =>
            have kk:aa [w.heap.size+2] w9 (w9.setCell ⟨w.heap.size+2,2,none⟩ (.int .i64 (co + ↑j+1))):=(aa.refl _ _).setCell (Or.inl (by simp)) _;refine⟨j+1,c2,H9,fu',by omega,rfl,by go_num,by rw[<-Nat.add_assoc];exact OKN,by omega,HF.out,af.kept D9 kk (by simp;omega) (by intro x hx;simp;rintro rfl;exact m3 hx),⟨T9'.1.setCell (Or.inr (by simp)) _,T9'.2⟩,kk.get q1 (by simp),kk.get q2 (by simp),?_,m1,m2,m3⟩;rw[ae q3,show co+(↑(j+1):Int)=co + ↑j+1 by omega];rfl
    · have HF:=(show Hid _ from hR.out.trans (FI t ⟨f,l,co⟩ fu' j c' hlt))
      obtain⟨j0,j1,j2,j3⟩:=bI B2;have y:=an B2;have HA:=(show Hid _ from fun a0 a1 a2 a3=>om hC' hT (F:=w.heap.size+1) (by omega) (by omega) n2 a0 a1 a2 a3);clear hR;go_wp2
      exact bodyPost_ret (v:=.agg #[.int .i64 0,.string ⟨#[]⟩,.int .i64 0,.int .i64 0]) (by simp[results,Tryz.results135,go_sem,j0,j1,j2,j3]) rfl
        ⟨by rw[HF.out];rfl,H',by rw[HF.out];exact(HA.out _ _ _ _).1,(HA.out _ _ _ _).2⟩
def fA(l:List Nat)(x:Nat):Bool:=l.any (fun y=>y==x)
theorem uc(l:List Nat)(x k:Nat)(h:k<l.length)(he:fA l x=fA (l.drop k) x)(hb:(l[k]==x)=true):fA l x=true:=by
 rw[he,List.drop_eq_getElem_cons h];simp only[fA,List.any_cons,hb,Bool.true_or]
theorem rm(l:List Nat)(x k:Nat)(h:k<l.length)(he:fA l x=fA (l.drop k) x)(hb:(l[k]==x)=false):fA l x=fA (l.drop (k+1)) x:=by
 rw[he,List.drop_eq_getElem_cons h];simp only[fA,List.any_cons,hb,Bool.false_or]
theorem rn(l:List Nat)(x k:Nat)(h:¬k<l.length)(he:fA l x=fA (l.drop k) x):fA l x=false:=by
 rw[he,List.drop_of_length_le (by omega)];rfl
theorem jC(a b:Nat):((a:Int)==(b:Int))=(a==b):=by
 cases h:(a==b)
 ·exact beq_eq_false_iff_ne.2 (by have:=beq_eq_false_iff_ne.1 h;omega)
 ·have:=eq_of_beq h;subst this;simp
theorem uF(hd:Hd)(l:List Nat)(x:Nat)(w:World)(ho:au w hd (aP l))(hl:l.length<=1073741824) :
  Calls Tryz.prog 154 #[.slice hd.ao l.length hd.cap,.int .i64 x] w fun e w'=>e=.returned (.bool (fA l x))/\w'=w:=by
 obtain⟨ao,cap⟩:=hd
 rcases ho.ways with ⟨e0,h0,_⟩ | ⟨g,cur,e1,_⟩
 ·have h0':l.length=0:=h0
  have hl0:l=[]:=List.eq_nil_of_length_eq_zero h0';subst hl0;clear ho h0 h0' hl e0;go_enter Tryz.func154,Tryz.ntmps154;go_wp2;refine wp_loop_rounds 1 ?_;rw[rounds_succ];go_wp2;go_ret;exact⟨rfl,rfl⟩
 ·simp only at e1
  subst e1;go_enter Tryz.func154,Tryz.ntmps154;go_wp2
  go_loopg [5] l.length (fun g i wr=>∃k:Nat,k<=l.length/\g=l.length-k/\i=.int .i64 k/\Hid (fA l x=fA (l.drop k) x)/\wr=w)
  case atStart=>exact⟨0,by omega,by omega,rfl,rfl,rfl⟩
  case round =>
   obtain⟨k,hk,hg,rfl,hs,rfl⟩:=hrel
   by_cases hlt:k<l.length
   ·have c1:=ho.cell rfl k (.int .i64 l[k]) (fM l k hlt)
    cases hb:(l[k]==x)
    ·have HM:Hid (fA l x=fA (l.drop (k+1)) x):=rm l x k hlt hs.out hb
     have hb':=(jC l[k] x).trans hb;clear hs ho hb;go_wp2
     go_roundg (l.length-(k+1))
     case measure=>omega
     case rel=>exact⟨k+1,by omega,rfl,by go_num,HM,rfl⟩
    ·have HM:Hid (fA l x=true):=uc l x k hlt hs.out hb
     have hb':=(jC l[k] x).trans hb;clear hs ho hb;go_wp2;go_ret;exact⟨GQ HM.out.symm,rfl⟩
   ·have HM:Hid (fA l x=false):=rn l x k hlt hs.out
    clear hs ho;go_wp2;go_ret;exact⟨GQ HM.out.symm,rfl⟩
def bB(l:List St)(a:Nat)(fin:Pl):Nat->List (ByteArray×Pl)->List Nat->(Nat×lW)×List Nat
 | _,[],ns=>((0,(3,fin)),ns)
 | i,(t,p) :: r,ns =>
  if(t.toList == [41])=true then((i+1,bT),ns)
  else match ft l t a with
   | none=>((0,(2,p)),ns)
   | some n=>if fA ns n=true then((0,(3,p)),ns) else bB l a fin (i+1) r (ns++[n])
theorem bZ.far{w w':World}{rb ro:Nat}{l:List St}{H:Nat->Hd}{P:Nat->Prop}{M:Nat}(h:bZ w rb ro l H)(k:dw P w w')(hP:∀x,P x->M<=x)(hM:∀x,cK H x->x<M)(hrb:rb<M):bZ w' rb ro l H:=by
 obtain⟨arr,t,h1,h2⟩:=h.cell;exact⟨⟨arr,t,k.get h1 (fun e=>by have:=hP _ e;omega),h2⟩,h.sts.keptP k (fun x hx e=>by have:=hP _ e;have:=hM _ hx;omega)⟩
theorem au.word{w:World}{h:Hd}{l:List (ByteArray×Pl)}(o:au w h (dZ l))(k:Nat)(hk:k<l.length) :
  ∃g,h.ao=some ⟨g,0,none⟩/\l.length<=h.cap/\h.cap<=9223372036854775807/\w.cell? ⟨g,k*4,none⟩=some (.string l[k].1)/\w.cell? ⟨g,k*4+1,none⟩=some (.string l[k].2.file)/\w.cell? ⟨g,k*4+2,none⟩=some (.int .i64 l[k].2.line)/\w.cell? ⟨g,k*4+3,none⟩=some (.int .i64 l[k].2.col):=by
 rcases o.ways with ⟨_,h0,_⟩ | ⟨g,cur,e1,e2,e3,e4,-⟩
 ·have:l.length=0:=h0
  omega
 ·have c:=fun j (hj:j<4) v (hv:(lC l[k])[j]?=some v)=>o.cell e1 (k*4+j) v ((AY l k hk j hj).trans hv)
  exact⟨g,e1,e3,by unfold maxLen at e4;exact e4,c 0 (by omega) _ rfl,c 1 (by omega) _ rfl,c 2 (by omega) _ rfl,c 3 (by omega) _ rfl⟩
theorem dU.named{c:gG}{N:Nat}(h:dU c N)(n:Nat):dU { c with names:=c.names++[n] } (N+1) :=
 ⟨by have:=h.names;simp;omega,by have:=h.tagged;simp only;omega,by have:=h.steps;simp only;omega,by have:=h.digits;simp only;omega,h.behind⟩
theorem yP(l:List St)(a:Nat)(fin:Pl)(i:Nat)(ws:List (ByteArray×Pl))(ns:List Nat)(hi:i<ws.length) :
  bB l a fin i (ws.drop i) ns=if(ws[i].1.toList == [41])=true then((i+1,bT),ns)
   else match ft l ws[i].1 a with
    | none=>((0,(2,ws[i].2)),ns)
    | some n=>if fA ns n=true then((0,(3,ws[i].2)),ns) else bB l a fin (i+1) (ws.drop (i+1)) (ns++[n]):=by
 rw[List.drop_eq_getElem_cons hi];rfl
theorem vG(l:List St)(a:Nat)(fin:Pl)(i:Nat)(ws:List (ByteArray×Pl))(ns:List Nat)(hi:¬i<ws.length):bB l a fin i (ws.drop i) ns=((0,(3,fin)),ns):=by
 rw[List.drop_of_length_le (by omega)];rfl
set_option maxRecDepth 100000 in
theorem qM(b:Nat)(c:gG)(Hc:Nat->Hd)(rb ro a:Nat)(l:List St)(H:Nat->Hd)(w0 w:World)(h:cB w b c Hc)(hr0:bZ w0 rb ro l H)(hk0:aa [] w0 w)(ha:a<l.length)(ok:db l)(hcn:c.names.length<=10000)
  (hb:w0.heap.size<=b) (hc:∀x,cK Hc x->w0.heap.size<=x) :
  Calls Tryz.prog 134 #[.pointer (some ⟨b,0,none⟩),.pointer (some ⟨rb,ro,none⟩),.int .i64 a] w fun e w' =>
   e=.returned (.tuple #[.int .i64 (bB l a l[a].fin 1 (l[a].proof.drop 1) c.names).1.1,eM (bB l a l[a].fin 1 (l[a].proof.drop 1) c.names).1.2])/\∃Hc',cB w' b { c with names:=(bB l a l[a].fin 1 (l[a].proof.drop 1) c.names).2 } Hc'/\ag b w Hc w' Hc':=by
 obtain⟨i0,hi0,hz0,hz1,hz2⟩:=info_parts fU;have hbw:=af.lt h;have hr:=hr0.still hk0;have hlen:=ok.len;have hpl:=ok.prfs a ha;have HNI:Hid (∀k,w.heap.size<=k->¬cK Hc k):=fun k hk hm=>by have:=af.inlt h hm;omega
 obtain⟨AO,HAO⟩:∃AO,Hid ((H (11+2*a)).ao=AO):=⟨_,rfl⟩
 obtain⟨W,hW⟩:∃W,W=w.alloc (.cells #[.int .i64 0,.string ⟨#[]⟩,.int .i64 0,.int .i64 0] 167):=⟨_,rfl⟩
 have K:aa [] w W:=by rw[hW];exact(aa.refl [] _).alloc _
 have BF:W.heap[w.heap.size]?=some (.cells aO 167 (0,0)):=by rw[hW];exact heap_alloc_new _ _
 have HW:=(show Hid _ from hW.symm);clear hW;go_enter Tryz.func134,Tryz.ntmps134
 go_upto_region 1 with fail
 rw[HW.out];go_wp2_with fail;refine(aI rb ro a l H _ (hr.still K) ha).mono ?_;rintro e w1 ⟨rfl,hk1⟩;unfold cQ;rw[HAO.out];obtain⟨W2,hW2⟩:∃W2,W2=w1.alloc (.cells #[.int .i64 l[a].kind,.string l[a].label,.slice (H (10+2*a)).ao l[a].symbols.length (H (10+2*a)).cap,.slice AO l[a].proof.length (H (11+2*a)).cap,.string l[a].fin.file,.int .i64 l[a].fin.line,.int .i64 l[a].fin.col,.int .i64 l[a].til] 144):=⟨_,rfl⟩
 have HW2:=(show Hid _ from hW2.symm);have K2:aa [] w W2:=by rw[hW2];exact(K.trans hk1).alloc _
 have BT:W2.heap[w1.heap.size]?=some (.cells #[.int .i64 l[a].kind,.string l[a].label,.slice (H (10+2*a)).ao l[a].symbols.length (H (10+2*a)).cap,.slice AO l[a].proof.length (H (11+2*a)).cap,.string l[a].fin.file,.int .i64 l[a].fin.line,.int .i64 l[a].fin.col,.int .i64 l[a].til] 144 (0,0)):=by rw[hW2];exact heap_alloc_new _ _
 have BF2:W2.heap[w.heap.size]?=some (.cells aO 167 (0,0)):=by rw[hW2];exact((aa.refl [] _).alloc _).get (hk1.get BF (by simp)) (by simp)
 have hs1:w.heap.size<w1.heap.size:=by have:=ac (hk1.get BF (by simp));omega
 clear hW2
 go_upto_region 2 with fail
 rw[HW2.out];clear HW HW2 hk1 BF K;obtain⟨TB,hTB⟩:∃TB:Array Value,TB=#[.int .i64 l[a].kind,.string l[a].label,.slice (H (10+2*a)).ao l[a].symbols.length (H (10+2*a)).cap,.slice AO l[a].proof.length (H (11+2*a)).cap,.string l[a].fin.file,.int .i64 l[a].fin.line,.int .i64 l[a].fin.col,.int .i64 l[a].til]:=⟨_,rfl⟩
 rw[<-hTB]at BT;have HTB:=(show Hid _ from hTB);clear hTB;go_wp2
 go_loopg [9] (l[a].proof.length-1) (fun gk iv wr=>∃(i:Nat) (ns:List Nat) (H1:Nat->Hd),1<=i/\i<=10001/\gk=l[a].proof.length-i/\iv=.int .i64 i/\ns.length<=10000+i/\Hid (bB l a l[a].fin 1 (l[a].proof.drop 1) c.names=bB l a l[a].fin i (l[a].proof.drop i) ns)/\cB wr b { c with names:=ns } H1/\ag b w Hc wr H1 /\
  wr.heap[w.heap.size]?=some (.cells aO 167 (0,0))/\wr.heap[w1.heap.size]?=some (.cells TB 144 (0,0))/\¬cK H1 w.heap.size/\¬cK H1 w1.heap.size)
 case atStart=>exact⟨1,c.names,Hc,by omega,by omega,rfl,rfl,by omega,rfl,h.still K2,(ag.refl _ _ _).still K2,BF2,BT,HNI.out _ (by omega),HNI.out _ (by omega)⟩
 case round =>
  obtain⟨i,ns,H1,hi1,hi2,hg,rfl,hnl,hR,hC,hT,B1,B2,n1,n2⟩:=hrel;clear BT BF2 K2
  have hP:∀x,(x=b∨cK Hc x)->w0.heap.size<=x:=by
   rintro x (e | e)
   ·omega
   ·exact hc x e
  have hr':bZ wr rb ro l H:=hr0.still (hk0.ofP hT.1 hP);have hOp:=hr'.sts.prfs a l[a] (List.getElem?_eq_getElem ha);have hB1w:=ac B1;have hB2w:=ac B2;obtain⟨z0,z1,z2,z3⟩:=bI B1;have yz:=an B1
  by_cases hlt:i<l[a].proof.length
  ·obtain⟨gp,ep,ecap,ecap2,d0,d1,d2,d3⟩:=hOp.word i hlt
   obtain rfl:AO=some ⟨gp,0,none⟩:=HAO.out.symm.trans ep;have HEP:=(show Hid _ from ep);have t3:wr.cell? ⟨w1.heap.size,3,none⟩=some (.slice (some ⟨gp,0,none⟩) l[a].proof.length (H (11+2*a)).cap):=by rw[ab B2,HTB.out];rfl
   clear ep;have BL:=yP l a l[a].fin i l[a].proof ns hlt;have HBL:=(show Hid _ from hR.out.trans BL);clear BL hR hOp;generalize hwd:l[a].proof[i]=wd at *;obtain⟨t,pf,pl,pc⟩:=wd;simp only at d0 d1 d2 d3 HBL;obtain⟨W5,hW5⟩:∃W5,W5=wr.alloc (.cells #[.string t,.string pf,.int .i64 pl,.int .i64 pc] 199):=⟨_,rfl⟩
   have K5:aa [] wr W5:=by rw[hW5];exact(aa.refl [] _).alloc _
   have B5:W5.heap[wr.heap.size]?=some (.cells #[.string t,.string pf,.int .i64 pl,.int .i64 pc] 199 (0,0)):=by rw[hW5];exact heap_alloc_new _ _
   have HW5:=(show Hid _ from hW5.symm);have hgp:gp<wr.heap.size:=(hr'.sts.prfs a l[a] (List.getElem?_eq_getElem ha)).lt (by unfold Hd.blk;rw[HEP.out];rfl);clear hW5
   go_upto_region 6 with fail
   rw[HW5.out];clear HW5 d0 d1 d2 d3 t3 z0 z1 z2 z3 yz;have v0:W5.cell? ⟨wr.heap.size,0,none⟩=some (.string t):=by rw[ab B5];rfl
   have v1:W5.cell? ⟨wr.heap.size,1,none⟩=some (.string pf):=by rw[ab B5];rfl
   have v2:W5.cell? ⟨wr.heap.size,2,none⟩=some (.int .i64 pl):=by rw[ab B5];rfl
   have v3:W5.cell? ⟨wr.heap.size,3,none⟩=some (.int .i64 pc):=by rw[ab B5];rfl
   have C5:=hC.still K5;have T5:=hT.still K5;have R5:=hr'.still K5;have F5:=K5.get B1 (by simp);have S5:=K5.get B2 (by simp);obtain⟨z0,z1,z2,z3⟩:=bI F5;have yz:=an F5;have HA:=(show Hid _ from fun a0 a1 a2 a3=>om C5 T5 (F:=w.heap.size) (Nat.le_refl _) (by omega) n1 a0 a1 a2 a3)
   cases ht:(t.toList == [41])
   ·rcases hf:ft l t a with _ | n
    ·have HF:Hid (bB l a l[a].fin 1 (l[a].proof.drop 1) c.names=((0,(2,⟨pf,pl,pc⟩)),ns)):=by show _=_;rw[HBL.out,ht,hf];simp
     clear HBL
     go_upto_region 10 with (go_at_call 136;refine(eE rb ro a t l H _ (by exact R5) (by omega)).mono ?_;rintro e w6 ⟨rfl,hw6⟩;rw[hw6,hf];simp only[bQ])
     go_region
     all_goals go_wp2
     all_goals exact bodyPost_ret (v:=.tuple #[.int .i64 0,.agg #[.int .i64 2,.string pf,.int .i64 pl,.int .i64 pc]]) (by simp[results,Tryz.results134,go_sem,z0,z1,z2,z3]) rfl ⟨by rw[HF.out];rfl,H1,by rw[HF.out];exact(cB.still (HA.out _ _ _ _).1 (aa.refl [] _).drew),ag.still (HA.out _ _ _ _).2 (aa.refl [] _).drew⟩
    ·obtain⟨k0,k1,k2,k3,k4⟩:=C5.cells
     simp only at k0;clear k1 k2 k3 k4;have hON:au W5 (H1 0) (aP ns):=af.own C5 0
     cases hh:fA ns n
     ·have HF:Hid (bB l a l[a].fin 1 (l[a].proof.drop 1) c.names=bB l a l[a].fin (i+1) (l[a].proof.drop (i+1)) (ns++[n])):=by show _=_;rw[HBL.out,ht,hf];simp[hh]
      have hA6:=C5.still ((aa.refl [] W5).alloc (.cells #[.int .i64 n] 3));have hfr:=af.free C5;have hbW:=af.lt C5
      have hrw:Hid (∀j,j≠0->pX { c with names:=ns++[n] } j=pX { c with names:=ns } j):=by
       intro j hj
       match j,hj with
       | 0,hj=>exact absurd rfl hj
       | 1,_=>rfl
       | 2,_=>rfl
       | m+3,_=>rfl
      clear HBL HA z0 z1 z2 z3 yz
      go_upto_region 13 with (first | (go_at_call 136;refine(eE rb ro a t l H _ (by exact R5) (by omega)).mono ?_;rintro e w6 ⟨rfl,hw6⟩;rw[hw6,hf];simp only[bQ]) | (go_at_call 154;refine(uF (H1 0) ns n _ (by exact hON) (by omega)).mono ?_;rintro e w7 ⟨rfl,hw7⟩;rw[hw7]))
      go_wp2_with (at_builtin;refine ay _ rfl (.tmp 56) (.tmp 58) 33 rfl i0 (.int .i64 0) 8 (H1 0) (aP ns) Tryz.underlying33 hi0 hz0 hz1 hz2 rfl Nat.one_pos rfl (by exact af.own hA6 0) ⟨_,0,none⟩ 1 1 [.int .i64 n] rfl rfl ?e1 ?e2 Nat.one_pos ?e3 ?e4 ?_)
      case e1=>intro j u hj;match j,hj with | 0,hj=>simp at hj;subst hj;simp[Addr.add]
      case e2=>intro u hu;simp at hu;subst hu;rfl
      case e3=>simp only[aP];unfold maxLen;omega
      case e4=>simp only[aP];omega
      intro g8 cap8 w8 hw8 hgr8 hfresh8;obtain⟨k5,f5,HP⟩:=af.app hA6 (cs':=gP { c with names:=ns++[n] } (cG H1 0 ⟨some ⟨g8,0,none⟩,cap8⟩)) (rows':=pX { c with names:=ns++[n] }) 0 0 g8 cap8 ((aP ns).n+1) _ hw8 (gL ns n) hgr8 (by simpa using hfresh8) hrw.out (.slice (H1 0).ao ns.length (H1 0).cap) rfl (by simp[gP,cG,aP]);have T8:=(show Hid _ from(T5.still ((aa.refl [] W5).alloc (.cells #[.int .i64 n] 3))).trans HP.out.2);have F8:Hid ((w8.setCell ⟨b,0,none⟩ (.slice (some ⟨g8,0,none⟩) ((aP ns).n+1) cap8)).heap[w.heap.size]?=some (.cells aO 167 (0,0))):=HP.out.2.1.get (((aa.refl [] W5).alloc _).get F5 (by simp)) (by rintro (e | e);omega;exact n1 e);have S8:Hid ((w8.setCell ⟨b,0,none⟩ (.slice (some ⟨g8,0,none⟩) ((aP ns).n+1) cap8)).heap[w1.heap.size]?=some (.cells TB 144 (0,0))):=HP.out.2.1.get (((aa.refl [] W5).alloc _).get S5 (by simp)) (by rintro (e | e);omega;exact n2 e);have m1:Hid (¬cK (cG H1 0 ⟨some ⟨g8,0,none⟩,cap8⟩) w.heap.size):=ag.fresh HP.out.2 _ (by have:=K5.size;simp;omega) n1;have m2:Hid (¬cK (cG H1 0 ⟨some ⟨g8,0,none⟩,cap8⟩) w1.heap.size):=ag.fresh HP.out.2 _ (by have:=K5.size;simp;omega) n2;clear hw8 hgr8 hfresh8 k0 hfr hON hA6 v0 v1 v2 v3;go_wp2
      go_roundg (l[a].proof.length-(i+1))
      case measure=>omega
      case rel=>exact⟨i+1,ns++[n],_,by omega,by omega,rfl,by go_num,by simp;omega,HF.out,HP.out.1,T8.out,F8.out,S8.out,m1.out,m2.out⟩
     ·have HF:Hid (bB l a l[a].fin 1 (l[a].proof.drop 1) c.names=((0,(3,⟨pf,pl,pc⟩)),ns)):=by show _=_;rw[HBL.out,ht,hf];simp[hh]
      clear HBL
      go_upto_region 12 with (first | (go_at_call 136;refine(eE rb ro a t l H _ (by exact R5) (by omega)).mono ?_;rintro e w6 ⟨rfl,hw6⟩;rw[hw6,hf];simp only[bQ]) | (go_at_call 154;refine(uF (H1 0) ns n _ (by exact hON) (by omega)).mono ?_;rintro e w7 ⟨rfl,hw7⟩;rw[hw7]))
      go_region
      all_goals go_wp2
      all_goals exact bodyPost_ret (v:=.tuple #[.int .i64 0,.agg #[.int .i64 3,.string pf,.int .i64 pl,.int .i64 pc]]) (by simp[results,Tryz.results134,go_sem,z0,z1,z2,z3]) rfl ⟨by rw[HF.out];rfl,H1,by rw[HF.out];exact(cB.still (HA.out _ _ _ _).1 (aa.refl [] _).drew),ag.still (HA.out _ _ _ _).2 (aa.refl [] _).drew⟩
   ·have HF:Hid (bB l a l[a].fin 1 (l[a].proof.drop 1) c.names=((i+1,bT),ns)):=by show _=_;rw[HBL.out,ht];simp
    clear HBL;go_wp2
    exact bodyPost_ret (v:=.tuple #[.int .i64 (i+1),.agg #[.int .i64 0,.string ⟨#[]⟩,.int .i64 0,.int .i64 0]]) (by simp[results,Tryz.results134,go_sem,z0,z1,z2,z3]) rfl
     ⟨by rw[HF.out];rfl,H1,by rw[HF.out];exact(HA.out _ _ _ _).1,(HA.out _ _ _ _).2⟩
  ·have HF:Hid (bB l a l[a].fin 1 (l[a].proof.drop 1) c.names=((0,(3,l[a].fin)),ns)):=hR.out.trans (vG l a l[a].fin i l[a].proof ns hlt)
   have t3:wr.cell? ⟨w1.heap.size,3,none⟩=some (.slice AO l[a].proof.length (H (11+2*a)).cap):=by rw[ab B2,HTB.out];rfl
   have t4:wr.cell? ⟨w1.heap.size,4,none⟩=some (.string l[a].fin.file):=by rw[ab B2,HTB.out];rfl
   have t5:wr.cell? ⟨w1.heap.size,5,none⟩=some (.int .i64 l[a].fin.line):=by rw[ab B2,HTB.out];rfl
   have t6:wr.cell? ⟨w1.heap.size,6,none⟩=some (.int .i64 l[a].fin.col):=by rw[ab B2,HTB.out];rfl
   have HA:=(show Hid _ from fun a0 a1 a2 a3=>om hC hT (F:=w.heap.size) (Nat.le_refl _) (by omega) n1 a0 a1 a2 a3);clear hR hOp
   go_upto_region 14 with fail
   go_region
   all_goals go_wp2
   all_goals exact bodyPost_ret (v:=.tuple #[.int .i64 0,.agg #[.int .i64 3,.string l[a].fin.file,.int .i64 l[a].fin.line,.int .i64 l[a].fin.col]]) (by simp[results,Tryz.results134,go_sem,z0,z1,z2,z3]) rfl ⟨by rw[HF.out];rfl,H1,by rw[HF.out];exact(cB.still (HA.out _ _ _ _).1 (aa.refl [] _).drew),ag.still (HA.out _ _ _ _).2 (aa.refl [] _).drew⟩
def bM(l:List St)(a:Nat)(fin:Pl):List (ByteArray×Pl)->List fk->List fk×lW
 | [],acc=>if acc.length=0 then([],(1,fin)) else(acc,bT)
 | (t,p) :: r,acc =>
  if(t.toList == [63])=true then bM l a fin r (acc++[⟨1,0,p⟩])
  else match ft l t a with
   | none=>([],(2,p))
   | some n=>bM l a fin r (acc++[⟨2,n,p⟩])
theorem Co(l:List St)(a:Nat)(fin:Pl)(i:Nat)(ws:List (ByteArray×Pl))(acc:List fk)(hi:i<ws.length) :
  bM l a fin (ws.drop i) acc=if(ws[i].1.toList == [63])=true then bM l a fin (ws.drop (i+1)) (acc++[⟨1,0,ws[i].2⟩])
   else match ft l ws[i].1 a with
    | none=>([],(2,ws[i].2))
    | some n=>bM l a fin (ws.drop (i+1)) (acc++[⟨2,n,ws[i].2⟩]):=by
 rw[List.drop_eq_getElem_cons hi];rfl
theorem zH(l:List St)(a:Nat)(fin:Pl)(i:Nat)(ws:List (ByteArray×Pl))(acc:List fk)(hi:¬i<ws.length):bM l a fin (ws.drop i) acc=if acc.length=0 then([],(1,fin)) else(acc,bT):=by
 rw[List.drop_of_length_le (by omega)];rfl
theorem gj{w wr:World}{F:Nat}(K:aa [] w wr)(h1:w.heap.size<=F)(a0 a1 a2 a3:Value):aa [] w ((((wr.setCell ⟨F,0,none⟩ a0).setCell ⟨F,1,none⟩ a1).setCell ⟨F,2,none⟩ a2).setCell ⟨F,3,none⟩ a3) :=
 (((K.setCell (Or.inr h1) _).setCell (Or.inr h1) _).setCell (Or.inr h1) _).setCell (Or.inr h1) _
theorem F7{w wr:World}{F:Nat}(K:aa [] w wr)(h1:w.heap.size<=F)(a0 a1 a2 a3 a4:Value):aa [] w (((((wr.setCell ⟨F,0,none⟩ a0).setCell ⟨F,1,none⟩ a1).setCell ⟨F,2,none⟩ a2).setCell ⟨F,3,none⟩ a3).setCell ⟨F,4,none⟩ a4) :=
 ((((K.setCell (Or.inr h1) _).setCell (Or.inr h1) _).setCell (Or.inr h1) _).setCell (Or.inr h1) _).setCell (Or.inr h1) _
set_option maxRecDepth 100000 in
theorem kw(rb ro a:Nat)(l:List St)(H:Nat->Hd)(w:World)(hr:bZ w rb ro l H)(ha:a<l.length)(ok:db l) :
  Calls Tryz.prog 116 #[.pointer (some ⟨rb,ro,none⟩),.int .i64 a] w fun e w'=>∃hd:Hd,
   e=.returned (.tuple #[.slice hd.ao (bM l a l[a].fin l[a].proof []).1.length hd.cap,eM (bM l a l[a].fin l[a].proof []).2])/\au w' hd (dB (bM l a l[a].fin l[a].proof []).1)/\(∀x,hd.blk=some x->w.heap.size<=x)/\aa [] w w':=by
 obtain⟨i0,hi0,hz0,hz1,hz2⟩:=info_parts E2;have hbw:=hr.lt;have hlen:=ok.len;have hpl:=ok.prfs a ha;obtain⟨AO,HAO⟩:∃AO,Hid ((H (11+2*a)).ao=AO):=⟨_,rfl⟩
 obtain⟨W,hW⟩:∃W,W=w.alloc (.cells #[.int .i64 0,.string ⟨#[]⟩,.int .i64 0,.int .i64 0] 167):=⟨_,rfl⟩
 have K:aa [] w W:=by rw[hW];exact(aa.refl [] _).alloc _
 have BF:W.heap[w.heap.size]?=some (.cells aO 167 (0,0)):=by rw[hW];exact heap_alloc_new _ _
 have HW:=(show Hid _ from hW.symm);clear hW;go_enter Tryz.func116,Tryz.ntmps116
 go_upto_region 1 with fail
 rw[HW.out];go_wp2_with fail;refine(aI rb ro a l H _ (hr.still K) ha).mono ?_;rintro e w1 ⟨rfl,hk1⟩;unfold cQ;rw[HAO.out];obtain⟨W2,hW2⟩:∃W2,W2=w1.alloc (.cells #[.int .i64 l[a].kind,.string l[a].label,.slice (H (10+2*a)).ao l[a].symbols.length (H (10+2*a)).cap,.slice AO l[a].proof.length (H (11+2*a)).cap,.string l[a].fin.file,.int .i64 l[a].fin.line,.int .i64 l[a].fin.col,.int .i64 l[a].til] 144):=⟨_,rfl⟩
 have HW2:=(show Hid _ from hW2.symm);have K2:aa [] w W2:=by rw[hW2];exact(K.trans hk1).alloc _
 obtain⟨TB,hTB⟩:∃TB:Array Value,TB=#[.int .i64 l[a].kind,.string l[a].label,.slice (H (10+2*a)).ao l[a].symbols.length (H (10+2*a)).cap,.slice AO l[a].proof.length (H (11+2*a)).cap,.string l[a].fin.file,.int .i64 l[a].fin.line,.int .i64 l[a].fin.col,.int .i64 l[a].til]:=⟨_,rfl⟩
 have BT:W2.heap[w1.heap.size]?=some (.cells TB 144 (0,0)):=by rw[hW2,hTB];exact heap_alloc_new _ _
 have BF2:W2.heap[w.heap.size]?=some (.cells aO 167 (0,0)):=by rw[hW2];exact((aa.refl [] _).alloc _).get (hk1.get BF (by simp)) (by simp)
 have hs1:w.heap.size<w1.heap.size:=by have:=ac (hk1.get BF (by simp));omega
 have hsT:=ac BT;have HTB:=(show Hid _ from hTB);clear hW2 hTB
 go_upto_region 2 with fail
 rw[HW2.out];clear HW HW2 hk1 BF K;go_wp2
 go_loopg [7,8] l[a].proof.length (fun gk sv iv wr=>∃(i:Nat) (acc:List fk) (hd:Hd),i<=l[a].proof.length/\gk=l[a].proof.length-i/\iv=.int .i64 i/\sv=.slice hd.ao acc.length hd.cap/\acc.length<=i/\Hid (bM l a l[a].fin l[a].proof []=bM l a l[a].fin (l[a].proof.drop i) acc)/\au wr hd (dB acc)/\(∀x,hd.blk=some x->W2.heap.size<=x) /\
  aa [] W2 wr)
 case atStart=>exact⟨0,[],⟨none,0⟩,by omega,by omega,rfl,rfl,by simp,rfl,World.ownsRow_nil _ _ _ _,by intro x hx;simp[Hd.blk]at hx,aa.refl _ _⟩
 case round =>
  obtain⟨i,acc,hd,hi,hg,rfl,rfl,hal,hR,hO,hN,hK⟩:=hrel;have KW:=K2.trans hK;have hr':=hr.still KW;have B1:=hK.get BF2 (by simp);have B2:=hK.get BT (by simp);have hB1w:=ac B1;have hB2w:=ac B2;obtain⟨z0,z1,z2,z3⟩:=bI B1;have yz:=an B1;have hOp:=hr'.sts.prfs a l[a] (List.getElem?_eq_getElem ha);have hsW:=K2.size
  by_cases hlt:i<l[a].proof.length
  ·obtain⟨gp,ep,ecap,ecap2,d0,d1,d2,d3⟩:=hOp.word i hlt
   obtain rfl:AO=some ⟨gp,0,none⟩:=HAO.out.symm.trans ep;have t3:wr.cell? ⟨w1.heap.size,3,none⟩=some (.slice (some ⟨gp,0,none⟩) l[a].proof.length (H (11+2*a)).cap):=by rw[ab B2,HTB.out];rfl
   have hgp:gp<wr.heap.size:=hOp.lt (by unfold Hd.blk;rw[ep];rfl);clear ep;have BL:=Co l a l[a].fin i l[a].proof acc hlt;have HBL:=(show Hid _ from hR.out.trans BL);clear BL hR hOp;generalize hwd:l[a].proof[i]=wd at *;obtain⟨t,pf,pl,pc⟩:=wd;simp only at d0 d1 d2 d3 HBL;obtain⟨W5,hW5⟩:∃W5,W5=(wr.alloc (.cells #[.string t,.string pf,.int .i64 pl,.int .i64 pc] 199)).alloc (.cells #[.int .i64 1,.int .i64 0,.string pf,.int .i64 pl,.int .i64 pc] 176):=⟨_,rfl⟩
   have K5:aa [] wr W5:=by rw[hW5];exact((aa.refl [] _).alloc _).alloc _
   have B5:W5.heap[wr.heap.size]?=some (.cells #[.string t,.string pf,.int .i64 pl,.int .i64 pc] 199 (0,0)):=by rw[hW5];exact((aa.refl [] _).alloc _).get (heap_alloc_new _ _) (by simp)
   have S5:W5.heap[wr.heap.size+1]?=some (.cells #[.int .i64 1,.int .i64 0,.string pf,.int .i64 pl,.int .i64 pc] 176 (0,0)):=by
    rw[hW5];have:=heap_alloc_new (wr.alloc (.cells #[.string t,.string pf,.int .i64 pl,.int .i64 pc] 199)) (.cells #[.int .i64 1,.int .i64 0,.string pf,.int .i64 pl,.int .i64 pc] 176);simpa using this
   have HW5:=(show Hid _ from hW5.symm);clear hW5
   go_upto_region 8 with fail
   rw[HW5.out];clear HW5 d0 d1 d2 d3 t3 z0 z1 z2 z3 yz;have v0:W5.cell? ⟨wr.heap.size,0,none⟩=some (.string t):=by rw[ab B5];rfl
   have v1:W5.cell? ⟨wr.heap.size,1,none⟩=some (.string pf):=by rw[ab B5];rfl
   have v2:W5.cell? ⟨wr.heap.size,2,none⟩=some (.int .i64 pl):=by rw[ab B5];rfl
   have v3:W5.cell? ⟨wr.heap.size,3,none⟩=some (.int .i64 pc):=by rw[ab B5];rfl
   have u0:W5.cell? ⟨wr.heap.size+1,0,none⟩=some (.int .i64 1):=by rw[ab S5];rfl
   have u1:W5.cell? ⟨wr.heap.size+1,1,none⟩=some (.int .i64 0):=by rw[ab S5];rfl
   have u2:W5.cell? ⟨wr.heap.size+1,2,none⟩=some (.string pf):=by rw[ab S5];rfl
   have u3:W5.cell? ⟨wr.heap.size+1,3,none⟩=some (.int .i64 pl):=by rw[ab S5];rfl
   have u4:W5.cell? ⟨wr.heap.size+1,4,none⟩=some (.int .i64 pc):=by rw[ab S5];rfl
   have yu:=an S5;have hO5:au W5 hd (dB acc):=hO.moved (fun x hx=>K5.block x (hO.lt hx) (by simp));have R5:=hr'.still K5;have F5:=K5.get B1 (by simp);obtain⟨z0,z1,z2,z3⟩:=bI F5;have yz:=an F5;have HK5:Hid (aa [] W2 W5):=hK.trans K5;have hs5:=ac S5
   cases ht:(t.toList == [63])
   ·have ht':(t.toList != [63])=true:=by simp[bne,ht]
    rcases hf:ft l t a with _ | n
    ·have HF:Hid (bM l a l[a].fin l[a].proof []=([],(2,⟨pf,pl,pc⟩))):=by show _=_;rw[HBL.out,ht,hf];simp
     clear HBL
     go_upto_region 11 with (go_at_call 136;refine(eE rb ro a t l H _ (by exact R5) (by omega)).mono ?_;rintro e w6 ⟨rfl,hw6⟩;rw[hw6,hf];simp only[bQ])
     go_region
     all_goals go_wp2
     all_goals exact bodyPost_ret (v:=.tuple #[.slice none 0 0,.agg #[.int .i64 2,.string pf,.int .i64 pl,.int .i64 pc]]) (by simp[results,Tryz.results116,go_sem,z0,z1,z2,z3]) rfl ⟨⟨none,0⟩,by rw[HF.out];rfl,by rw[HF.out];exact World.ownsRow_nil _ _ _ _,by intro x hx;simp[Hd.blk]at hx,(gj (K2.trans HK5.out) (Nat.le_refl _) _ _ _ _).drew⟩
    ·have HF:Hid (bM l a l[a].fin l[a].proof []=bM l a l[a].fin (l[a].proof.drop (i+1)) (acc++[⟨2,n,⟨pf,pl,pc⟩⟩])):=by show _=_;rw[HBL.out,ht,hf];simp
     clear HBL;obtain⟨W6,hW6⟩:∃W6,W6=((((W5.setCell ⟨wr.heap.size+1,0,none⟩ (.int .i64 2)).setCell ⟨wr.heap.size+1,1,none⟩ (.int .i64 n)).setCell ⟨wr.heap.size+1,2,none⟩ (.string pf)).setCell ⟨wr.heap.size+1,3,none⟩ (.int .i64 pl)).setCell ⟨wr.heap.size+1,4,none⟩ (.int .i64 pc):=⟨_,rfl⟩
     have k56:aa [wr.heap.size+1] W5 W6:=by rw[hW6];exact((((((aa.refl _ _).setCell (Or.inl (by simp)) _).setCell (Or.inl (by simp)) _).setCell (Or.inl (by simp)) _).setCell (Or.inl (by simp)) _).setCell (Or.inl (by simp)) _)
     have S6:W6.heap[wr.heap.size+1]?=some (.cells #[.int .i64 2,.int .i64 n,.string pf,.int .i64 pl,.int .i64 pc] 176 (0,0)):=by
      rw[hW6,ae (ae (ae (ae (ae S5 _ _) _ _) _ _) _ _)];rfl
     have HK6:Hid (aa [] W2 W6):=by
      show aa [] W2 W6
      rw[hW6];exact F7 HK5.out (by have:=hK.size;omega) _ _ _ _ _
     have hO6':au W6 hd (dB acc):=hO5.moved (fun x hx=>k56.block x (hO5.lt hx) (by simp;rintro rfl;have:=hO.lt hx;omega));have HW6:=(show Hid _ from hW6.symm);clear hW6 k56
     go_upto_region 13 with (go_at_call 136;refine(eE rb ro a t l H _ (by exact R5) (by omega)).mono ?_;rintro e w6 ⟨rfl,hw6⟩;rw[hw6,hf];simp only[bQ])
     rw[HW6.out];clear HW6 u0 u1 u2 u3 u4 yu;have u0:W6.cell? ⟨wr.heap.size+1,0,none⟩=some (.int .i64 2):=by rw[ab S6];rfl
     have u1:W6.cell? ⟨wr.heap.size+1,1,none⟩=some (.int .i64 n):=by rw[ab S6];rfl
     have u2:W6.cell? ⟨wr.heap.size+1,2,none⟩=some (.string pf):=by rw[ab S6];rfl
     have u3:W6.cell? ⟨wr.heap.size+1,3,none⟩=some (.int .i64 pl):=by rw[ab S6];rfl
     have u4:W6.cell? ⟨wr.heap.size+1,4,none⟩=some (.int .i64 pc):=by rw[ab S6];rfl
     have hO6:=hO6'.moved (fun x hx=>((aa.refl [] W6).alloc (.cells #[.int .i64 2,.int .i64 n,.string pf,.int .i64 pl,.int .i64 pc] 176)).block x (hO6'.lt hx) (by simp));have K6:Hid (aa [] W2 (W6.alloc (.cells #[.int .i64 2,.int .i64 n,.string pf,.int .i64 pl,.int .i64 pc] 176))):=aa.alloc HK6.out _;clear z0 z1 z2 z3 yz v0 v1 v2 v3;go_wp2_with (at_builtin;refine ay _ rfl (.tmp 47) (.tmp 49) 165 rfl i0 (.agg #[.int .i64 0,.int .i64 0,.string ⟨#[]⟩,.int .i64 0,.int .i64 0]) 48 hd (dB acc) Tryz.underlying165 hi0 hz0 hz1 hz2 rfl (Nat.succ_pos 4) rfl (by exact hO6) ⟨_,0,none⟩ 1 1 (gH ⟨2,n,⟨pf,pl,pc⟩⟩) rfl rfl ?e1 (nB _) Nat.one_pos ?e3 ?e4 ?_)
     case e1 =>
      intro j u hj;have hk:(W6.alloc (.cells #[.int .i64 2,.int .i64 n,.string pf,.int .i64 pl,.int .i64 pc] 176)).heap[W6.heap.size]?=some (.cells #[.int .i64 2,.int .i64 n,.string pf,.int .i64 pl,.int .i64 pc] 176 (0,0)):=heap_alloc_new _ _;rw[aV,ab hk];simpa [gH] using hj
     case e3=>simp only[dB];unfold maxLen;omega
     case e4=>simp only[dB];omega
     intro g8 cap8 w8 hw8 hgr8 hfresh8;rw[nz acc ⟨2,n,⟨pf,pl,pc⟩⟩]at hw8;have hK8:=(K6.out).grown hgr8 hN
     have hg8:W2.heap.size<=g8:=by
      rcases hfresh8 with e | e
      ·exact hN g8 e
      ·have:=K6.out.size;simp at e this;omega
     have hEl:Hid ((dB acc).n+1=(acc++[(⟨2,n,⟨pf,pl,pc⟩⟩:fk)]).length):=by show _=_;simp[dB]
     rw[hEl.out];clear hgr8 hfresh8 hO6;go_wp2
     go_roundg (l[a].proof.length-(i+1))
     case measure=>omega
     case rel=>exact⟨i+1,acc++[⟨2,n,⟨pf,pl,pc⟩⟩],⟨some ⟨g8,0,none⟩,cap8⟩,by omega,rfl,by go_num,rfl,by simp;omega,HF,hw8,by intro x hx;simp[Hd.blk]at hx;omega,hK8⟩
   ·have ht':(t.toList != [63])=false:=by simp[bne,ht]
    have HF:Hid (bM l a l[a].fin l[a].proof []=bM l a l[a].fin (l[a].proof.drop (i+1)) (acc++[⟨1,0,⟨pf,pl,pc⟩⟩])):=by show _=_;rw[HBL.out,ht];simp
    clear HBL;have hO6:=hO5.moved (fun x hx=>((aa.refl [] W5).alloc (.cells #[.int .i64 1,.int .i64 0,.string pf,.int .i64 pl,.int .i64 pc] 176)).block x (hO5.lt hx) (by simp));have K6:Hid (aa [] W2 (W5.alloc (.cells #[.int .i64 1,.int .i64 0,.string pf,.int .i64 pl,.int .i64 pc] 176))):=aa.alloc HK5.out _;clear z0 z1 z2 z3 yz
    go_upto_region 13 with fail
    clear v0 v1 v2 v3;go_wp2_with (at_builtin;refine ay _ rfl (.tmp 47) (.tmp 49) 165 rfl i0 (.agg #[.int .i64 0,.int .i64 0,.string ⟨#[]⟩,.int .i64 0,.int .i64 0]) 48 hd (dB acc) Tryz.underlying165 hi0 hz0 hz1 hz2 rfl (Nat.succ_pos 4) rfl (by exact hO6) ⟨_,0,none⟩ 1 1 (gH ⟨1,0,⟨pf,pl,pc⟩⟩) rfl rfl ?e1 (nB _) Nat.one_pos ?e3 ?e4 ?_)
    case e1 =>
     intro j u hj;have hk:(W5.alloc (.cells #[.int .i64 1,.int .i64 0,.string pf,.int .i64 pl,.int .i64 pc] 176)).heap[W5.heap.size]?=some (.cells #[.int .i64 1,.int .i64 0,.string pf,.int .i64 pl,.int .i64 pc] 176 (0,0)):=heap_alloc_new _ _;rw[aV,ab hk];simpa [gH] using hj
    case e3=>simp only[dB];unfold maxLen;omega
    case e4=>simp only[dB];omega
    intro g8 cap8 w8 hw8 hgr8 hfresh8;rw[nz acc ⟨1,0,⟨pf,pl,pc⟩⟩]at hw8;have hK8:=(K6.out).grown hgr8 hN
    have hg8:W2.heap.size<=g8:=by
     rcases hfresh8 with e | e
     ·exact hN g8 e
     ·have:=K6.out.size;simp at e this;omega
    have hEl:Hid ((dB acc).n+1=(acc++[(⟨1,0,⟨pf,pl,pc⟩⟩:fk)]).length):=by show _=_;simp[dB]
    rw[hEl.out];clear hgr8 hfresh8 hO6;go_wp2
    go_roundg (l[a].proof.length-(i+1))
    case measure=>omega
    case rel=>exact⟨i+1,acc++[⟨1,0,⟨pf,pl,pc⟩⟩],⟨some ⟨g8,0,none⟩,cap8⟩,by omega,rfl,by go_num,rfl,by simp;omega,HF,hw8,by intro x hx;simp[Hd.blk]at hx;omega,hK8⟩
  ·have HF:Hid (bM l a l[a].fin l[a].proof []=if acc.length=0 then([],(1,l[a].fin)) else(acc,bT)):=hR.out.trans (zH l a l[a].fin i l[a].proof acc hlt)
   have t3:wr.cell? ⟨w1.heap.size,3,none⟩=some (.slice AO l[a].proof.length (H (11+2*a)).cap):=by rw[ab B2,HTB.out];rfl
   have t4:wr.cell? ⟨w1.heap.size,4,none⟩=some (.string l[a].fin.file):=by rw[ab B2,HTB.out];rfl
   have t5:wr.cell? ⟨w1.heap.size,5,none⟩=some (.int .i64 l[a].fin.line):=by rw[ab B2,HTB.out];rfl
   have t6:wr.cell? ⟨w1.heap.size,6,none⟩=some (.int .i64 l[a].fin.col):=by rw[ab B2,HTB.out];rfl
   clear hR hOp
   by_cases hz:acc.length=0
   ·have hz1:((acc.length:Int)==0)=true:=by simp[hz]
    have HF2:Hid (bM l a l[a].fin l[a].proof []=([],(1,l[a].fin))):=by show _=_;rw[HF.out,if_pos hz]
    clear HF hz
    go_upto_region 15 with fail
    go_region
    all_goals go_wp2
    all_goals exact bodyPost_ret (v:=.tuple #[.slice none 0 0,.agg #[.int .i64 1,.string l[a].fin.file,.int .i64 l[a].fin.line,.int .i64 l[a].fin.col]]) (by simp[results,Tryz.results116,go_sem,z0,z1,z2,z3]) rfl ⟨⟨none,0⟩,by rw[HF2.out];rfl,by rw[HF2.out];exact World.ownsRow_nil _ _ _ _,by intro x hx;simp[Hd.blk]at hx,(gj KW (Nat.le_refl _) _ _ _ _).drew⟩
   ·have hz1:((acc.length:Int)==0)=false:=beq_eq_false_iff_ne.2 (by omega)
    have HF2:Hid (bM l a l[a].fin l[a].proof []=(acc,bT)):=by show _=_;rw[HF.out,if_neg hz]
    clear HF hz;go_wp2
    exact bodyPost_ret (v:=.tuple #[.slice hd.ao acc.length hd.cap,.agg #[.int .i64 0,.string ⟨#[]⟩,.int .i64 0,.int .i64 0]]) (by simp[results,Tryz.results116,go_sem,z0,z1,z2,z3]) rfl
     ⟨hd,by rw[HF2.out];rfl,by rw[HF2.out];exact hO.moved (fun x hx=>(fe (r:=w.heap.size) _ _ _ _).block x (hO.lt hx) (by simp;rintro rfl;have:=hN _ hx;omega)),fun x hx=>Nat.le_trans hsW (hN x hx),gj KW (Nat.le_refl _) _ _ _ _⟩
def gT:List (ByteArray×Pl)->gG->lW×gG
 | [],c=>(bT,c)
 | (t,p) :: r,c=>if((gN t p c).1.1==0)=true then gT r (gN t p c).2 else gN t p c
def vu(f:lW)(ws:List (ByteArray×Pl))(c:gG):lW×gG:=if(f.1==0)=true then gT ws c else(f,c)
theorem Fr(f:lW)(ws:List (ByteArray×Pl))(c:gG)(i:Nat)(hi:i<ws.length)(h:(f.1==0)=true):vu f (ws.drop i) c=vu (gN ws[i].1 ws[i].2 c).1 (ws.drop (i+1)) (gN ws[i].1 ws[i].2 c).2:=by
 unfold vu;rw[if_pos h,List.drop_eq_getElem_cons hi];rfl
theorem Eo(f:lW)(ws:List (ByteArray×Pl))(c:gG)(i:Nat)(hi:¬i<ws.length)(h:(f.1==0)=true):vu f (ws.drop i) c=(bT,c):=by
 unfold vu;rw[if_pos h,List.drop_of_length_le (by omega)];rfl
theorem ym(f:lW)(ws:List (ByteArray×Pl))(c:gG)(h:(f.1==0)=false):vu f ws c=(f,c):=by
 unfold vu;rw[if_neg (by rw[h];simp)]
theorem qW(l:List St)(a:Nat)(fin:Pl)(ws:List (ByteArray×Pl))(i:Nat)(ns:List Nat):(bB l a fin i ws ns).1.1<=i+ws.length/\(bB l a fin i ws ns).2.length<=ns.length+ws.length:=by
 induction ws generalizing i ns with
 | nil=>simp[bB]
 | cons x r ih =>
  obtain⟨t,p⟩:=x;rw[bB]
  split
  ·simp
  ·split
   ·simp
   ·split
    ·simp
    ·next n _ _=>have:=ih (i+1) (ns++[n]);simp at this ⊢;omega
theorem dU.mono{c:gG}{N M:Nat}(h:dU c N)(k:N<=M):dU c M:=⟨Nat.le_trans h.names k,Nat.le_trans h.tagged k,Nat.le_trans h.steps k,by have:=h.digits;omega,h.behind⟩
theorem xC(t:ByteArray)(p:Pl)(f:Nat):∀(j:Nat) (c:gG) (N:Nat),dU c (N+j)->j<=t.size->dU (cX t p f j c).2 (N+t.size):=by
 induction f with
 | zero=>intro j c N h hj;exact h.mono (by omega)
 | succ f ih =>
  intro j c N h hj;rw[cX]
  split
  ·next hlt =>
   have h2:=h.letter (aw t j).toNat { p with col:=p.col+j }
   split
   ·exact ih (j+1) _ N (by rw[<-Nat.add_assoc];exact h2) (by omega)
   ·exact h2.mono (by omega)
  ·exact h.mono (by omega)
theorem rU{c:gG}{N:Nat}(t:ByteArray)(p:Pl)(h:dU c N):dU (gN t p c).2 (N+t.size):=xC t p _ 0 c N h (Nat.zero_le _)
def fX(ws:List (ByteArray×Pl)):Nat:=(ws.map (fun x=>x.1.size)).sum
theorem xe(ws:List (ByteArray×Pl))(i:Nat)(hi:i<ws.length):fX (ws.drop i)=ws[i].1.size+fX (ws.drop (i+1)):=by
 have e:=List.drop_eq_getElem_cons hi;simp only[fX];rw[e];rfl
theorem uY(ws:List (ByteArray×Pl))(i:Nat):fX (ws.drop i)<=fX ws:=by
 induction i generalizing ws with
 | zero=>simp
 | succ i ih =>
  cases ws with
  | nil=>simp
  | cons x r=>have:=ih r;simp[fX]at this ⊢;omega
structure iQ(s:St):Prop where
 size:fX s.proof<=1000000
 col:∀x∈s.proof,-1000000000<=x.2.col/\x.2.col<=1000000000
def mh(l:List St)(a:Nat)(s:St):lW×gG :=
 vu (bB l a s.fin 1 (s.proof.drop 1) (aq l a)).1.2 (s.proof.drop (bB l a s.fin 1 (s.proof.drop 1) (aq l a)).1.1) ⟨(bB l a s.fin 1 (s.proof.drop 1) (aq l a)).2,[],[],0,false⟩
def j9(fin:Pl)(R:lW×gG):List fk×lW :=
 if(R.1.1==0)=true then
  (if R.2.digits=0 then(if R.2.steps.length=0 then([],(1,fin)) else(R.2.steps,bT)) else([],(4,fin)))
 else([],R.1)
def fH(l:List St)(a:Nat)(s:St):List fk×lW:=j9 s.fin (mh l a s)
def qF(hd:Hd):Nat->Hd
 | 0=>hd
 | _+1=>⟨none,0⟩
theorem DH{w:World}{hd:Hd}{t:Nat}{cs:List Value}{rows:Nat->eI}(o:au w hd (rows 0))(n:∀i,au (w.alloc (.cells cs.toArray t)) ⟨none,0⟩ (rows (i+1))):af (w.alloc (.cells cs.toArray t)) w.heap.size t cs rows (qF hd):=by
 refine⟨heap_alloc_new _ _,?_,?_,?_⟩
 ·intro i
  cases i with
  | zero=>exact o.moved (fun x hx=>((aa.refl [] w).alloc _).block x (o.lt hx) (by simp))
  | succ i=>exact n i
 ·intro i j hne
  cases i with
  | zero =>
   cases j with
   | zero=>exact absurd rfl hne
   | succ j =>
    have e2:(qF hd (j+1)).blk=none:=rfl;rw[e2,show qF hd 0=hd from rfl]
    cases h:hd.blk with
    | none=>exact Or.inl rfl
    | some x=>right;simp
  | succ i=>left;rfl
 ·intro i
  cases i with
  | zero=>intro e;have:=o.lt e;omega
  | succ i=>intro e;simp[qF,Hd.blk]at e
theorem En{hd:Hd}{x:Nat}(h:cK (qF hd) x):hd.blk=some x:=by
 obtain⟨i,hi⟩:=h
 cases i with
 | zero=>exact hi
 | succ i=>simp[qF,Hd.blk]at hi
end Go.Proofs.YtlbhbocbakijbaaGreat
