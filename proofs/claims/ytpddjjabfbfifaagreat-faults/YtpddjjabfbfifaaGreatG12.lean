import Derived.Deep.RegionHeld3
import Derived.Test.YtpddjjabfbfifaaGreatG11
namespace Go.Proofs.YtpddjjabfbfifaaGreat
open Go.RowKit
set_option maxHeartbeats 40000000
theorem fy.letter{c:kM}{N:Nat}(h:fy c N)(n:Nat)(p:Pl):fy (cg c n p).2 (N+1):=by
  have h1:=h.names;have h2:=h.tagged;have h3:=h.steps;have h4:=h.digits;have h5:=h.behind;unfold cg
  split
  · unfold jm dL
    split
    · exact⟨by simp only;omega,by simp only;omega,by simp;omega,by simp,by simp⟩
    · split
      · exact⟨by simp only;omega,by simp only;omega,by simp;omega,by simp,by simp⟩
      · exact⟨by simp only;omega,by simp only;omega,by simp only;omega,by simp,h5⟩
  · split
    · next hc =>
      unfold lu
      split
      · exact⟨by simp only;omega,by simp only;omega,by simp only;omega,by simp only;omega,by simp⟩
      · exact⟨by simp only;omega,by simp only;omega,by simp only;omega,by simp only;omega,by simp⟩
    · split
      · exact⟨by simp only;omega,by simp;omega,by simp only;omega,by simp only;omega,by simp⟩
      · split
        · exact⟨by simp only[dL];omega,by simp only[dL];omega,by simp[dL];omega,by simp only[dL];omega,by simp[dL]⟩
        · exact⟨by simp only;omega,by simp only;omega,by simp only;omega,by simp only;omega,h5⟩
def gK(t:ByteArray)(p:Pl):Nat->Nat->kM->oG×kM
  | 0,_,c=>(cJ,c)
  | f+1,j,c =>
    if j<t.size then
      (if((cg c (aF t j).toNat { p with col:=p.col+j }).1==0)=true then gK t p f (j+1) (cg c (aF t j).toNat { p with col:=p.col+j }).2
       else(((cg c (aF t j).toNat { p with col:=p.col+j }).1,{ p with col:=p.col+j }),(cg c (aF t j).toNat { p with col:=p.col+j }).2))
    else(cJ,c)
def lz(t:ByteArray)(p:Pl)(c:kM):oG×kM:=gK t p (t.size+1) 0 c
theorem LB(t:ByteArray)(p:Pl)(f j:Nat)(c:kM)(hj:j<t.size)(h:((cg c (aF t j).toNat { p with col:=p.col+j }).1==0)=true) :
    gK t p (f+1) j c=gK t p f (j+1) (cg c (aF t j).toNat { p with col:=p.col+j }).2:=by rw[gK,if_pos hj,if_pos h]
theorem JS(t:ByteArray)(p:Pl)(f j:Nat)(c:kM)(hj:j<t.size)(h:((cg c (aF t j).toNat { p with col:=p.col+j }).1==0)=false) :
    gK t p (f+1) j c=(((cg c (aF t j).toNat { p with col:=p.col+j }).1,{ p with col:=p.col+j }),(cg c (aF t j).toNat { p with col:=p.col+j }).2):=by rw[gK,if_pos hj,if_neg (by rw[h];simp)]
theorem KY(t:ByteArray)(p:Pl)(f j:Nat)(c:kM)(hj:¬j<t.size):gK t p (f+1) j c=(cJ,c):=by rw[gK,if_neg hj]
theorem cD{w:World}{r:Nat}(h:w.heap[r]?=some (.cells a9 165 (0,0))) :
    w.cell? ⟨r,0,none⟩=some (.int .i64 0)/\w.cell? ⟨r,1,none⟩=some (.string ⟨#[]⟩)/\w.cell? ⟨r,2,none⟩=some (.int .i64 0)/\w.cell? ⟨r,3,none⟩=some (.int .i64 0):=by
  refine⟨?_,?_,?_,?_⟩ <;> (rw[aa h];rfl)
theorem sA{w w2:World}{b t F:Nat}{cs:List Value}{rows:Nat->dK}{H H2:Nat->Hd}(D:aR w2 b t cs rows H2)(T:aw b w H w2 H2)(h1:w.heap.size<=F)(h2:b≠F)(h3:¬fm H2 F)(a0 a1 a2 a3:Value) :
    aR ((((w2.setCell ⟨F,0,none⟩ a0).setCell ⟨F,1,none⟩ a1).setCell ⟨F,2,none⟩ a2).setCell ⟨F,3,none⟩ a3) b t cs rows H2 /\
    aw b w H ((((w2.setCell ⟨F,0,none⟩ a0).setCell ⟨F,1,none⟩ a1).setCell ⟨F,2,none⟩ a2).setCell ⟨F,3,none⟩ a3) H2:=by
  refine⟨D.kept (ig _ _ _ _) (by simpa using h2) (fun x hx=>by simp;rintro rfl;exact h3 hx),?_,T.2⟩;exact(((T.1.setCell (Or.inr h1) _).setCell (Or.inr h1) _).setCell (Or.inr h1) _).setCell (Or.inr h1) _
set_option maxRecDepth 100000 in
theorem xH(b:Nat)(c:kM)(H:Nat->Hd)(t f:ByteArray)(l co:Int)(w:World)(h:dq w b c H)(N:Nat)(ok:fy c N)(hN:N+t.size<=10000000)(hco:-1000000000<=co/\co<=1000000000) :
    Calls Tryz.prog 184 #[.pointer (some ⟨b,0,none⟩),.agg #[.string t,.string f,.int .i64 l,.int .i64 co]] w fun e w'=>e=.returned (gu (lz t ⟨f,l,co⟩ c).1)/\∃H',dq w' b (lz t ⟨f,l,co⟩ c).2 H'/\aw b w H w' H':=by
  obtain⟨W,hW⟩:∃W,W=(w.alloc (.cells #[.string t,.string f,.int .i64 l,.int .i64 co] 229)).alloc (.cells #[.int .i64 0,.string ⟨#[]⟩,.int .i64 0,.int .i64 0] 165):=⟨_,rfl⟩
  have K:ab [] w W:=by rw[hW];exact((ab.refl [] _).alloc _).alloc _
  have BW:W.heap[w.heap.size]?=some (.cells #[.string t,.string f,.int .i64 l,.int .i64 co] 229 (0,0)):=by rw[hW];exact((ab.refl [] _).alloc _).get (heap_alloc_new _ _) (by simp)
  have BF:W.heap[w.heap.size+1]?=some (.cells a9 165 (0,0)):=by
    rw[hW];have:=heap_alloc_new (w.alloc (.cells #[.string t,.string f,.int .i64 l,.int .i64 co] 229)) (.cells #[.int .i64 0,.string ⟨#[]⟩,.int .i64 0,.int .i64 0] 165);simpa [a9] using this
  have hWs:W.heap.size=w.heap.size+2:=by rw[hW];simp
  have hbw:=aR.lt h;have HNI:Hid (∀k,w.heap.size<=k->¬fm H k):=fun k hk hm=>by have:=aR.inlt h hm;omega
  have hC:=h.still K;have HW:=(show Hid _ from hW.symm);have u0:W.cell? ⟨w.heap.size,0,none⟩=some (.string t):=by rw[aa BW];rfl
  have u1:W.cell? ⟨w.heap.size,1,none⟩=some (.string f):=by rw[aa BW];rfl
  have u2:W.cell? ⟨w.heap.size,2,none⟩=some (.int .i64 l):=by rw[aa BW];rfl
  have u3:W.cell? ⟨w.heap.size,3,none⟩=some (.int .i64 co):=by rw[aa BW];rfl
  clear hW;go_enter Tryz.func184,Tryz.ntmps184
  go_upto_region 1 with fail
  rw[HW.out];go_wp2
  go_loopg [6] t.size (fun gk i wr=>∃(j:Nat) (c':kM) (H':Nat->Hd) (fu:Nat),j<=t.size/\gk=t.size-j/\i=.int .i64 j/\fy c' (N+j)/\t.size-j+1<=fu/\Hid (lz t ⟨f,l,co⟩ c=gK t ⟨f,l,co⟩ fu j c')/\dq wr b c' H'/\aw b w H wr H' /\
    wr.heap[w.heap.size]?=some (.cells #[.string t,.string f,.int .i64 l,.int .i64 co] 229 (0,0))/\wr.heap[w.heap.size+1]?=some (.cells a9 165 (0,0))/\wr.heap[w.heap.size+2]?=some (.cells #[.string f,.int .i64 l,.int .i64 (co+j)] 36 (0,0))/\¬fm H' w.heap.size/\¬fm H' (w.heap.size+1)/\¬fm H' (w.heap.size+2))
  case atStart =>
    refine⟨0,c,H,t.size+1,by omega,by omega,rfl,ok,by omega,rfl,hC.still ((ab.refl [] _).alloc _),(aw.refl _ _ _).still (K.alloc _),((ab.refl [] _).alloc _).get BW (by simp),((ab.refl [] _).alloc _).get BF (by simp),?_,HNI.out _ (by omega),HNI.out _ (by omega),HNI.out _ (by omega)⟩;rw[<-hWs];have:=heap_alloc_new W (.cells #[.string f,.int .i64 l,.int .i64 co] 36);simpa using this
  case round =>
    obtain⟨j,c',H',fu,hj,hg,rfl,ok',hfu,hR,hC',hT,B1,B2,B3,n1,n2,n3⟩:=hrel;clear u0 u1 u2 u3 BW BF hC HW;have u0:wr.cell? ⟨w.heap.size,0,none⟩=some (.string t):=by rw[aa B1];rfl
    have v0:wr.cell? ⟨w.heap.size+2,0,none⟩=some (.string f):=by rw[aa B3];rfl
    have v1:wr.cell? ⟨w.heap.size+2,1,none⟩=some (.int .i64 l):=by rw[aa B3];rfl
    have v2:wr.cell? ⟨w.heap.size+2,2,none⟩=some (.int .i64 (co+j)):=by rw[aa B3];rfl
    obtain⟨fu',rfl⟩:∃fu',fu=fu'+1:=⟨fu-1,by omega⟩
    by_cases hlt:j<t.size
    · have hbt:(aF t j).toNat=t[j].toNat:=by rw[bI t j hlt];rfl
      have L1:=LB t ⟨f,l,co⟩ fu' j c' hlt;have L2:=JS t ⟨f,l,co⟩ fu' j c' hlt;have OKN:=ok'.letter t[j].toNat { (⟨f,l,co⟩:Pl) with col:=co+j };have h256:t[j].toNat<256:=UInt8.toNat_lt _;have TL:=fun(w':World) (h':dq w' b c' H')=>uL b c' H' t[j].toNat f l (co+j) w' h' ⟨by have:=ok'.names;omega,by have:=ok'.tagged;omega,by have:=ok'.steps;omega,by have:=ok'.digits;omega,ok'.behind⟩ h256
      rw[hbt]at L1 L2;simp only at L1 L2 OKN;have HL1:=(show Hid _ from L1);have HL2:=(show Hid _ from L2);have HTL:=(show Hid _ from TL);clear L1 L2 TL hbt;generalize cg c' t[j].toNat ⟨f,l,co + ↑j⟩=Q at *;obtain⟨r,c2⟩:=Q;simp only at HL1 HL2 HTL OKN
      have HCE:Hid (∀(w9:World) (H9:Nat->Hd) (_:aw b wr.drew H' w9 H9),w9.heap[w.heap.size]?=some (.cells #[.string t,.string f,.int .i64 l,.int .i64 co] 229 (0,0))/\w9.heap[w.heap.size+1]?=some (.cells a9 165 (0,0))/\w9.heap[w.heap.size+2]?=some (.cells #[.string f,.int .i64 l,.int .i64 (co+j)] 36 (0,0))):=by
        intro w9 H9 T9;exact⟨T9.1.get (by exact B1) (by rintro (e | e);omega;exact n1 e),T9.1.get (by exact B2) (by rintro (e | e);omega;exact n2 e),T9.1.get (by exact B3) (by rintro (e | e);omega;exact n3 e)⟩
      have HCC:Hid (∀(w9:World) (H9:Nat->Hd) (_:aw b wr.drew H' w9 H9),w9.cell? ⟨w.heap.size,0,none⟩=some (.string t)/\w9.cell? ⟨w.heap.size+2,0,none⟩=some (.string f)/\w9.cell? ⟨w.heap.size+2,1,none⟩=some (.int .i64 l)/\w9.cell? ⟨w.heap.size+2,2,none⟩=some (.int .i64 (co+j))):=by
        intro w9 H9 T9;obtain⟨q1,q2,q3⟩:=HCE.out w9 H9 T9;refine⟨by rw[aa q1];rfl,by rw[aa q3];rfl,by rw[aa q3];rfl,by rw[aa q3];rfl⟩
      have hs1:=ae B1;have hs2:=ae B2;have hs3:=ae B3
      cases hr:(r==0)
      · have hr':(r != 0)=true:=by simp[bne,hr]
        have HF:=(show Hid _ from hR.out.trans (HL2.out hr));clear hR HL1 HL2
        go_upto_region 5 with fail
        go_region_held3 (fun w'=>w'.cell? ⟨w.heap.size,0,none⟩=some (.string t)/\w'.cell? ⟨w.heap.size+2,0,none⟩=some (.string f)/\w'.cell? ⟨w.heap.size+2,1,none⟩=some (.int .i64 l)/\w'.cell? ⟨w.heap.size+2,2,none⟩=some (.int .i64 (co+j))) (go_keep) (first | (go_at_call 217;refine(HTL.out _ (by exact hC'.still (ab.refl [] _).drew)).mono ?_;rintro e w9 ⟨rfl,H9,D9,T9⟩;obtain⟨x0,x1,x2,x3⟩:=HCC.out w9 H9 T9))
        all_goals
          obtain⟨q1,q2,q3⟩:=HCE.out w9 H9 T9;obtain⟨j0,j1,j2,j3⟩:=cD q2;have y:=ak q2;have m2:=T9.fresh (w.heap.size+1) (by exact hs2) n2;have HA:=(show Hid _ from fun a0 a1 a2 a3=>sA D9 (hT.trans (aw.first (ab.refl [] _).drew T9)) (F:=w.heap.size+1) (by omega) (by omega) m2 a0 a1 a2 a3);go_wp2
          exact bodyPost_ret (v:=.agg #[.int .i64 r,.string f,.int .i64 l,.int .i64 (co+j)]) (by simp[results,Tryz.results184,go_sem,j0,j1,j2,j3]) rfl
            ⟨by rw[HF.out];rfl,H9,by rw[HF.out];exact(HA.out _ _ _ _).1,(HA.out _ _ _ _).2⟩
      · have hr':(r != 0)=false:=by simp[bne,hr]
        have HF:=(show Hid _ from hR.out.trans (HL1.out hr));clear hR HL1 HL2
        go_upto_region 5 with fail
        go_region_held3 (fun w'=>w'.cell? ⟨w.heap.size,0,none⟩=some (.string t)/\w'.cell? ⟨w.heap.size+2,0,none⟩=some (.string f)/\w'.cell? ⟨w.heap.size+2,1,none⟩=some (.int .i64 l)/\w'.cell? ⟨w.heap.size+2,2,none⟩=some (.int .i64 (co+j))) (go_keep) (first | (go_at_call 217;refine(HTL.out _ (by exact hC'.still (ab.refl [] _).drew)).mono ?_;rintro e w9 ⟨rfl,H9,D9,T9⟩;obtain⟨x0,x1,x2,x3⟩:=HCC.out w9 H9 T9))
        all_goals
          obtain⟨q1,q2,q3⟩:=HCE.out w9 H9 T9;have y:=ak q3;have m1:=T9.fresh w.heap.size (by exact hs1) n1;have m2:=T9.fresh (w.heap.size+1) (by exact hs2) n2;have m3:=T9.fresh (w.heap.size+2) (by exact hs3) n3;have T9':=hT.trans (aw.first (ab.refl [] _).drew T9);go_wp2
          go_roundg (t.size-(j+1))
          case measure=>omega
          case rel =>
            have kk:ab [w.heap.size+2] w9 (w9.setCell ⟨w.heap.size+2,2,none⟩ (.int .i64 (co + ↑j+1))):=(ab.refl _ _).setCell (Or.inl (by simp)) _;refine⟨j+1,c2,H9,fu',by omega,rfl,by go_num,by rw[<-Nat.add_assoc];exact OKN,by omega,HF.out,aR.kept D9 kk (by simp;omega) (by intro x hx;simp;rintro rfl;exact m3 hx),⟨T9'.1.setCell (Or.inr (by simp)) _,T9'.2⟩,kk.get q1 (by simp),kk.get q2 (by simp),?_,m1,m2,m3⟩;rw[ah q3,show co+(↑(j+1):Int)=co + ↑j+1 by omega];rfl
    · have HF:=(show Hid _ from hR.out.trans (KY t ⟨f,l,co⟩ fu' j c' hlt))
      obtain⟨j0,j1,j2,j3⟩:=cD B2;have y:=ak B2;have HA:=(show Hid _ from fun a0 a1 a2 a3=>sA hC' hT (F:=w.heap.size+1) (by omega) (by omega) n2 a0 a1 a2 a3);clear hR;go_wp2
      exact bodyPost_ret (v:=.agg #[.int .i64 0,.string ⟨#[]⟩,.int .i64 0,.int .i64 0]) (by simp[results,Tryz.results184,go_sem,j0,j1,j2,j3]) rfl
        ⟨by rw[HF.out];rfl,H',by rw[HF.out];exact(HA.out _ _ _ _).1,(HA.out _ _ _ _).2⟩
def iH(l:List Nat)(x:Nat):Bool:=l.any (fun y=>y==x)
theorem yN(l:List Nat)(x k:Nat)(h:k<l.length)(he:iH l x=iH (l.drop k) x)(hb:(l[k]==x)=true):iH l x=true:=by
 rw[he,List.drop_eq_getElem_cons h];simp only[iH,List.any_cons,hb,Bool.true_or]
theorem vP(l:List Nat)(x k:Nat)(h:k<l.length)(he:iH l x=iH (l.drop k) x)(hb:(l[k]==x)=false):iH l x=iH (l.drop (k+1)) x:=by
 rw[he,List.drop_eq_getElem_cons h];simp only[iH,List.any_cons,hb,Bool.false_or]
theorem vQ(l:List Nat)(x k:Nat)(h:¬k<l.length)(he:iH l x=iH (l.drop k) x):iH l x=false:=by
 rw[he,List.drop_of_length_le (by omega)];rfl
theorem mL(a b:Nat):((a:Int)==(b:Int))=(a==b):=by
 cases h:(a==b)
 ·exact beq_eq_false_iff_ne.2 (by have:=beq_eq_false_iff_ne.1 h;omega)
 ·have:=eq_of_beq h;subst this;simp
theorem zk(hd:Hd)(l:List Nat)(x:Nat)(w:World)(ho:aA w hd (bq l))(hl:l.length<=1073741824) :
  Calls Tryz.prog 216 #[.slice hd.ao l.length hd.cap,.int .i64 x] w fun e w'=>e=.returned (.bool (iH l x))/\w'=w:=by
 obtain⟨ao,cap⟩:=hd
 rcases ho.ways with ⟨e0,h0,_⟩ | ⟨g,cur,e1,_⟩
 ·have h0':l.length=0:=h0
  have hl0:l=[]:=List.eq_nil_of_length_eq_zero h0';subst hl0;clear ho h0 h0' hl e0;go_enter Tryz.func216,Tryz.ntmps216;go_wp2;refine wp_loop_rounds 1 ?_;rw[rounds_succ];go_wp2;go_ret;exact⟨rfl,rfl⟩
 ·simp only at e1
  subst e1;go_enter Tryz.func216,Tryz.ntmps216;go_wp2
  go_loopg [5] l.length (fun g i wr=>∃k:Nat,k<=l.length/\g=l.length-k/\i=.int .i64 k/\Hid (iH l x=iH (l.drop k) x)/\wr=w)
  case atStart=>exact⟨0,by omega,by omega,rfl,rfl,rfl⟩
  case round =>
   obtain⟨k,hk,hg,rfl,hs,rfl⟩:=hrel
   by_cases hlt:k<l.length
   ·have c1:=ho.cell rfl k (.int .i64 l[k]) (kc l k hlt)
    cases hb:(l[k]==x)
    ·have HM:Hid (iH l x=iH (l.drop (k+1)) x):=vP l x k hlt hs.out hb
     have hb':=(mL l[k] x).trans hb;clear hs ho hb;go_wp2
     go_roundg (l.length-(k+1))
     case measure=>omega
     case rel=>exact⟨k+1,by omega,rfl,by go_num,HM,rfl⟩
    ·have HM:Hid (iH l x=true):=yN l x k hlt hs.out hb
     have hb':=(mL l[k] x).trans hb;clear hs ho hb;go_wp2;go_ret;exact⟨aB HM.out.symm,rfl⟩
   ·have HM:Hid (iH l x=false):=vQ l x k hlt hs.out
    clear hs ho;go_wp2;go_ret;exact⟨aB HM.out.symm,rfl⟩
def db(l:List St)(a:Nat)(fin:Pl):Nat->List (ByteArray×Pl)->List Nat->(Nat×oG)×List Nat
 | _,[],ns=>((0,(3,fin)),ns)
 | i,(t,p) :: r,ns =>
  if(t.toList == [41])=true then((i+1,cJ),ns)
  else match lg l t a with
   | none=>((0,(2,p)),ns)
   | some n=>if iH ns n=true then((0,(3,p)),ns) else db l a fin (i+1) r (ns++[n])
theorem eu.far{w w':World}{rb ro:Nat}{l:List St}{H:Nat->Hd}{P:Nat->Prop}{M:Nat}(h:eu w rb ro l H)(k:dQ P w w')(hP:∀x,P x->M<=x)(hM:∀x,fm H x->x<M)(hrb:rb<M):eu w' rb ro l H:=by
 obtain⟨arr,t,h1,h2⟩:=h.cell;exact⟨⟨arr,t,k.get h1 (fun e=>by have:=hP _ e;omega),h2⟩,h.sts.keptP k (fun x hx e=>by have:=hP _ e;have:=hM _ hx;omega)⟩
theorem aA.word{w:World}{h:Hd}{l:List (ByteArray×Pl)}(o:aA w h (fE l))(k:Nat)(hk:k<l.length) :
  ∃g,h.ao=some ⟨g,0,none⟩/\l.length<=h.cap/\h.cap<=9223372036854775807/\w.cell? ⟨g,k*4,none⟩=some (.string l[k].1)/\w.cell? ⟨g,k*4+1,none⟩=some (.string l[k].2.file)/\w.cell? ⟨g,k*4+2,none⟩=some (.int .i64 l[k].2.line)/\w.cell? ⟨g,k*4+3,none⟩=some (.int .i64 l[k].2.col):=by
 rcases o.ways with ⟨_,h0,_⟩ | ⟨g,cur,e1,e2,e3,e4,-⟩
 ·have:l.length=0:=h0
  omega
 ·have c:=fun j (hj:j<4) v (hv:(oR l[k])[j]?=some v)=>o.cell e1 (k*4+j) v ((Fl l k hk j hj).trans hv)
  exact⟨g,e1,e3,by unfold maxLen at e4;exact e4,c 0 (by omega) _ rfl,c 1 (by omega) _ rfl,c 2 (by omega) _ rfl,c 3 (by omega) _ rfl⟩
theorem fy.named{c:kM}{N:Nat}(h:fy c N)(n:Nat):fy { c with names:=c.names++[n] } (N+1) :=
 ⟨by have:=h.names;simp;omega,by have:=h.tagged;simp only;omega,by have:=h.steps;simp only;omega,by have:=h.digits;simp only;omega,h.behind⟩
theorem Dn(l:List St)(a:Nat)(fin:Pl)(i:Nat)(ws:List (ByteArray×Pl))(ns:List Nat)(hi:i<ws.length) :
  db l a fin i (ws.drop i) ns=if(ws[i].1.toList == [41])=true then((i+1,cJ),ns)
   else match lg l ws[i].1 a with
    | none=>((0,(2,ws[i].2)),ns)
    | some n=>if iH ns n=true then((0,(3,ws[i].2)),ns) else db l a fin (i+1) (ws.drop (i+1)) (ns++[n]):=by
 rw[List.drop_eq_getElem_cons hi];rfl
theorem An(l:List St)(a:Nat)(fin:Pl)(i:Nat)(ws:List (ByteArray×Pl))(ns:List Nat)(hi:¬i<ws.length):db l a fin i (ws.drop i) ns=((0,(3,fin)),ns):=by
 rw[List.drop_of_length_le (by omega)];rfl
set_option maxRecDepth 100000 in
theorem vn(b:Nat)(c:kM)(Hc:Nat->Hd)(rb ro a:Nat)(l:List St)(H:Nat->Hd)(w0 w:World)(h:dq w b c Hc)(hr0:eu w0 rb ro l H)(hk0:ab [] w0 w)(ha:a<l.length)(ok:jH l)(hcn:c.names.length<=10000)
  (hb:w0.heap.size<=b) (hc:∀x,fm Hc x->w0.heap.size<=x) :
  Calls Tryz.prog 183 #[.pointer (some ⟨b,0,none⟩),.pointer (some ⟨rb,ro,none⟩),.int .i64 a] w fun e w' =>
   e=.returned (.tuple #[.int .i64 (db l a l[a].fin 1 (l[a].proof.drop 1) c.names).1.1,gu (db l a l[a].fin 1 (l[a].proof.drop 1) c.names).1.2])/\∃Hc',dq w' b { c with names:=(db l a l[a].fin 1 (l[a].proof.drop 1) c.names).2 } Hc'/\aw b w Hc w' Hc':=by
 obtain⟨i0,hi0,hz0,hz1,hz2⟩:=info_parts vS;have hbw:=aR.lt h;have hr:=hr0.still hk0;have hlen:=ok.len;have hpl:=ok.prfs a ha;have HNI:Hid (∀k,w.heap.size<=k->¬fm Hc k):=fun k hk hm=>by have:=aR.inlt h hm;omega
 obtain⟨AO,HAO⟩:∃AO,Hid ((H (11+2*a)).ao=AO):=⟨_,rfl⟩
 obtain⟨W,hW⟩:∃W,W=w.alloc (.cells #[.int .i64 0,.string ⟨#[]⟩,.int .i64 0,.int .i64 0] 165):=⟨_,rfl⟩
 have K:ab [] w W:=by rw[hW];exact(ab.refl [] _).alloc _
 have BF:W.heap[w.heap.size]?=some (.cells a9 165 (0,0)):=by rw[hW];exact heap_alloc_new _ _
 have HW:=(show Hid _ from hW.symm);clear hW;go_enter Tryz.func183,Tryz.ntmps183
 go_upto_region 1 with fail
 rw[HW.out];go_wp2_with fail;refine(bb rb ro a l H _ (hr.still K) ha).mono ?_;rintro e w1 ⟨rfl,hk1⟩;unfold eI;rw[HAO.out];obtain⟨W2,hW2⟩:∃W2,W2=w1.alloc (.cells #[.int .i64 l[a].kind,.string l[a].label,.slice (H (10+2*a)).ao l[a].symbols.length (H (10+2*a)).cap,.slice AO l[a].proof.length (H (11+2*a)).cap,.string l[a].fin.file,.int .i64 l[a].fin.line,.int .i64 l[a].fin.col,.int .i64 l[a].til] 158):=⟨_,rfl⟩
 have HW2:=(show Hid _ from hW2.symm);have K2:ab [] w W2:=by rw[hW2];exact(K.trans hk1).alloc _
 have BT:W2.heap[w1.heap.size]?=some (.cells #[.int .i64 l[a].kind,.string l[a].label,.slice (H (10+2*a)).ao l[a].symbols.length (H (10+2*a)).cap,.slice AO l[a].proof.length (H (11+2*a)).cap,.string l[a].fin.file,.int .i64 l[a].fin.line,.int .i64 l[a].fin.col,.int .i64 l[a].til] 158 (0,0)):=by rw[hW2];exact heap_alloc_new _ _
 have BF2:W2.heap[w.heap.size]?=some (.cells a9 165 (0,0)):=by rw[hW2];exact((ab.refl [] _).alloc _).get (hk1.get BF (by simp)) (by simp)
 have hs1:w.heap.size<w1.heap.size:=by have:=ae (hk1.get BF (by simp));omega
 clear hW2
 go_upto_region 2 with fail
 rw[HW2.out];clear HW HW2 hk1 BF K;obtain⟨TB,hTB⟩:∃TB:Array Value,TB=#[.int .i64 l[a].kind,.string l[a].label,.slice (H (10+2*a)).ao l[a].symbols.length (H (10+2*a)).cap,.slice AO l[a].proof.length (H (11+2*a)).cap,.string l[a].fin.file,.int .i64 l[a].fin.line,.int .i64 l[a].fin.col,.int .i64 l[a].til]:=⟨_,rfl⟩
 rw[<-hTB]at BT;have HTB:=(show Hid _ from hTB);clear hTB;go_wp2
 go_loopg [9] (l[a].proof.length-1) (fun gk iv wr=>∃(i:Nat) (ns:List Nat) (H1:Nat->Hd),1<=i/\i<=10001/\gk=l[a].proof.length-i/\iv=.int .i64 i/\ns.length<=10000+i/\Hid (db l a l[a].fin 1 (l[a].proof.drop 1) c.names=db l a l[a].fin i (l[a].proof.drop i) ns)/\dq wr b { c with names:=ns } H1/\aw b w Hc wr H1 /\
  wr.heap[w.heap.size]?=some (.cells a9 165 (0,0))/\wr.heap[w1.heap.size]?=some (.cells TB 158 (0,0))/\¬fm H1 w.heap.size/\¬fm H1 w1.heap.size)
 case atStart=>exact⟨1,c.names,Hc,by omega,by omega,rfl,rfl,by omega,rfl,h.still K2,(aw.refl _ _ _).still K2,BF2,BT,HNI.out _ (by omega),HNI.out _ (by omega)⟩
 case round =>
  obtain⟨i,ns,H1,hi1,hi2,hg,rfl,hnl,hR,hC,hT,B1,B2,n1,n2⟩:=hrel;clear BT BF2 K2
  have hP:∀x,(x=b∨fm Hc x)->w0.heap.size<=x:=by
   rintro x (e | e)
   ·omega
   ·exact hc x e
  have hr':eu wr rb ro l H:=hr0.still (hk0.ofP hT.1 hP);have hOp:=hr'.sts.prfs a l[a] (List.getElem?_eq_getElem ha);have hB1w:=ae B1;have hB2w:=ae B2;obtain⟨z0,z1,z2,z3⟩:=cD B1;have yz:=ak B1
  by_cases hlt:i<l[a].proof.length
  ·obtain⟨gp,ep,ecap,ecap2,d0,d1,d2,d3⟩:=hOp.word i hlt
   obtain rfl:AO=some ⟨gp,0,none⟩:=HAO.out.symm.trans ep;have HEP:=(show Hid _ from ep);have t3:wr.cell? ⟨w1.heap.size,3,none⟩=some (.slice (some ⟨gp,0,none⟩) l[a].proof.length (H (11+2*a)).cap):=by rw[aa B2,HTB.out];rfl
   clear ep;have BL:=Dn l a l[a].fin i l[a].proof ns hlt;have HBL:=(show Hid _ from hR.out.trans BL);clear BL hR hOp;generalize hwd:l[a].proof[i]=wd at *;obtain⟨t,pf,pl,pc⟩:=wd;simp only at d0 d1 d2 d3 HBL;obtain⟨W5,hW5⟩:∃W5,W5=wr.alloc (.cells #[.string t,.string pf,.int .i64 pl,.int .i64 pc] 229):=⟨_,rfl⟩
   have K5:ab [] wr W5:=by rw[hW5];exact(ab.refl [] _).alloc _
   have B5:W5.heap[wr.heap.size]?=some (.cells #[.string t,.string pf,.int .i64 pl,.int .i64 pc] 229 (0,0)):=by rw[hW5];exact heap_alloc_new _ _
   have HW5:=(show Hid _ from hW5.symm);have hgp:gp<wr.heap.size:=(hr'.sts.prfs a l[a] (List.getElem?_eq_getElem ha)).lt (by unfold Hd.blk;rw[HEP.out];rfl);clear hW5
   go_upto_region 6 with fail
   rw[HW5.out];clear HW5 d0 d1 d2 d3 t3 z0 z1 z2 z3 yz;have v0:W5.cell? ⟨wr.heap.size,0,none⟩=some (.string t):=by rw[aa B5];rfl
   have v1:W5.cell? ⟨wr.heap.size,1,none⟩=some (.string pf):=by rw[aa B5];rfl
   have v2:W5.cell? ⟨wr.heap.size,2,none⟩=some (.int .i64 pl):=by rw[aa B5];rfl
   have v3:W5.cell? ⟨wr.heap.size,3,none⟩=some (.int .i64 pc):=by rw[aa B5];rfl
   have C5:=hC.still K5;have T5:=hT.still K5;have R5:=hr'.still K5;have F5:=K5.get B1 (by simp);have S5:=K5.get B2 (by simp);obtain⟨z0,z1,z2,z3⟩:=cD F5;have yz:=ak F5;have HA:=(show Hid _ from fun a0 a1 a2 a3=>sA C5 T5 (F:=w.heap.size) (Nat.le_refl _) (by omega) n1 a0 a1 a2 a3)
   cases ht:(t.toList == [41])
   ·rcases hf:lg l t a with _ | n
    ·have HF:Hid (db l a l[a].fin 1 (l[a].proof.drop 1) c.names=((0,(2,⟨pf,pl,pc⟩)),ns)):=by show _=_;rw[HBL.out,ht,hf];simp
     clear HBL
     go_upto_region 10 with (go_at_call 185;refine(fX rb ro a t l H _ (by exact R5) (by omega)).mono ?_;rintro e w6 ⟨rfl,hw6⟩;rw[hw6,hf];simp only[nK])
     go_region
     all_goals go_wp2
     all_goals exact bodyPost_ret (v:=.tuple #[.int .i64 0,.agg #[.int .i64 2,.string pf,.int .i64 pl,.int .i64 pc]]) (by simp[results,Tryz.results183,go_sem,z0,z1,z2,z3]) rfl ⟨by rw[HF.out];rfl,H1,by rw[HF.out];exact(dq.still (HA.out _ _ _ _).1 (ab.refl [] _).drew),aw.still (HA.out _ _ _ _).2 (ab.refl [] _).drew⟩
    ·obtain⟨k0,k1,k2,k3,k4⟩:=C5.cells
     simp only at k0;clear k1 k2 k3 k4;have hON:aA W5 (H1 0) (bq ns):=aR.own C5 0
     cases hh:iH ns n
     ·have HF:Hid (db l a l[a].fin 1 (l[a].proof.drop 1) c.names=db l a l[a].fin (i+1) (l[a].proof.drop (i+1)) (ns++[n])):=by show _=_;rw[HBL.out,ht,hf];simp[hh]
      have hA6:=C5.still ((ab.refl [] W5).alloc (.cells #[.int .i64 n] 3));have hfr:=aR.free C5;have hbW:=aR.lt C5
      have hrw:Hid (∀j,j≠0->uq { c with names:=ns++[n] } j=uq { c with names:=ns } j):=by
       intro j hj
       match j,hj with
       | 0,hj=>exact absurd rfl hj
       | 1,_=>rfl
       | 2,_=>rfl
       | m+3,_=>rfl
      clear HBL HA z0 z1 z2 z3 yz
      go_upto_region 13 with (first | (go_at_call 185;refine(fX rb ro a t l H _ (by exact R5) (by omega)).mono ?_;rintro e w6 ⟨rfl,hw6⟩;rw[hw6,hf];simp only[nK]) | (go_at_call 216;refine(zk (H1 0) ns n _ (by exact hON) (by omega)).mono ?_;rintro e w7 ⟨rfl,hw7⟩;rw[hw7]))
      go_wp2_with (at_builtin;refine aM _ rfl (.tmp 56) (.tmp 58) 26 rfl i0 (.int .i64 0) 8 (H1 0) (bq ns) Tryz.underlying26 hi0 hz0 hz1 hz2 rfl Nat.one_pos rfl (by exact aR.own hA6 0) ⟨_,0,none⟩ 1 1 [.int .i64 n] rfl rfl ?e1 ?e2 Nat.one_pos ?e3 ?e4 ?_)
      case e1=>intro j u hj;match j,hj with | 0,hj=>simp at hj;subst hj;simp[Addr.add]
      case e2=>intro u hu;simp at hu;subst hu;rfl
      case e3=>simp only[bq];unfold maxLen;omega
      case e4=>simp only[bq];omega
      intro g8 cap8 w8 hw8 hgr8 hfresh8;obtain⟨k5,f5,HP⟩:=aR.app hA6 (cs':=j8 { c with names:=ns++[n] } (fM H1 0 ⟨some ⟨g8,0,none⟩,cap8⟩)) (rows':=uq { c with names:=ns++[n] }) 0 0 g8 cap8 ((bq ns).n+1) _ hw8 (kV ns n) hgr8 (by simpa using hfresh8) hrw.out (.slice (H1 0).ao ns.length (H1 0).cap) rfl (by simp[j8,fM,bq]);have T8:=(show Hid _ from(T5.still ((ab.refl [] W5).alloc (.cells #[.int .i64 n] 3))).trans HP.out.2);have F8:Hid ((w8.setCell ⟨b,0,none⟩ (.slice (some ⟨g8,0,none⟩) ((bq ns).n+1) cap8)).heap[w.heap.size]?=some (.cells a9 165 (0,0))):=HP.out.2.1.get (((ab.refl [] W5).alloc _).get F5 (by simp)) (by rintro (e | e);omega;exact n1 e);have S8:Hid ((w8.setCell ⟨b,0,none⟩ (.slice (some ⟨g8,0,none⟩) ((bq ns).n+1) cap8)).heap[w1.heap.size]?=some (.cells TB 158 (0,0))):=HP.out.2.1.get (((ab.refl [] W5).alloc _).get S5 (by simp)) (by rintro (e | e);omega;exact n2 e);have m1:Hid (¬fm (fM H1 0 ⟨some ⟨g8,0,none⟩,cap8⟩) w.heap.size):=aw.fresh HP.out.2 _ (by have:=K5.size;simp;omega) n1;have m2:Hid (¬fm (fM H1 0 ⟨some ⟨g8,0,none⟩,cap8⟩) w1.heap.size):=aw.fresh HP.out.2 _ (by have:=K5.size;simp;omega) n2;clear hw8 hgr8 hfresh8 k0 hfr hON hA6 v0 v1 v2 v3;go_wp2
      go_roundg (l[a].proof.length-(i+1))
      case measure=>omega
      case rel=>exact⟨i+1,ns++[n],_,by omega,by omega,rfl,by go_num,by simp;omega,HF.out,HP.out.1,T8.out,F8.out,S8.out,m1.out,m2.out⟩
     ·have HF:Hid (db l a l[a].fin 1 (l[a].proof.drop 1) c.names=((0,(3,⟨pf,pl,pc⟩)),ns)):=by show _=_;rw[HBL.out,ht,hf];simp[hh]
      clear HBL
      go_upto_region 12 with (first | (go_at_call 185;refine(fX rb ro a t l H _ (by exact R5) (by omega)).mono ?_;rintro e w6 ⟨rfl,hw6⟩;rw[hw6,hf];simp only[nK]) | (go_at_call 216;refine(zk (H1 0) ns n _ (by exact hON) (by omega)).mono ?_;rintro e w7 ⟨rfl,hw7⟩;rw[hw7]))
      go_region
      all_goals go_wp2
      all_goals exact bodyPost_ret (v:=.tuple #[.int .i64 0,.agg #[.int .i64 3,.string pf,.int .i64 pl,.int .i64 pc]]) (by simp[results,Tryz.results183,go_sem,z0,z1,z2,z3]) rfl ⟨by rw[HF.out];rfl,H1,by rw[HF.out];exact(dq.still (HA.out _ _ _ _).1 (ab.refl [] _).drew),aw.still (HA.out _ _ _ _).2 (ab.refl [] _).drew⟩
   ·have HF:Hid (db l a l[a].fin 1 (l[a].proof.drop 1) c.names=((i+1,cJ),ns)):=by show _=_;rw[HBL.out,ht];simp
    clear HBL;go_wp2
    exact bodyPost_ret (v:=.tuple #[.int .i64 (i+1),.agg #[.int .i64 0,.string ⟨#[]⟩,.int .i64 0,.int .i64 0]]) (by simp[results,Tryz.results183,go_sem,z0,z1,z2,z3]) rfl
     ⟨by rw[HF.out];rfl,H1,by rw[HF.out];exact(HA.out _ _ _ _).1,(HA.out _ _ _ _).2⟩
  ·have HF:Hid (db l a l[a].fin 1 (l[a].proof.drop 1) c.names=((0,(3,l[a].fin)),ns)):=hR.out.trans (An l a l[a].fin i l[a].proof ns hlt)
   have t3:wr.cell? ⟨w1.heap.size,3,none⟩=some (.slice AO l[a].proof.length (H (11+2*a)).cap):=by rw[aa B2,HTB.out];rfl
   have t4:wr.cell? ⟨w1.heap.size,4,none⟩=some (.string l[a].fin.file):=by rw[aa B2,HTB.out];rfl
   have t5:wr.cell? ⟨w1.heap.size,5,none⟩=some (.int .i64 l[a].fin.line):=by rw[aa B2,HTB.out];rfl
   have t6:wr.cell? ⟨w1.heap.size,6,none⟩=some (.int .i64 l[a].fin.col):=by rw[aa B2,HTB.out];rfl
   have HA:=(show Hid _ from fun a0 a1 a2 a3=>sA hC hT (F:=w.heap.size) (Nat.le_refl _) (by omega) n1 a0 a1 a2 a3);clear hR hOp
   go_upto_region 14 with fail
   go_region
   all_goals go_wp2
   all_goals exact bodyPost_ret (v:=.tuple #[.int .i64 0,.agg #[.int .i64 3,.string l[a].fin.file,.int .i64 l[a].fin.line,.int .i64 l[a].fin.col]]) (by simp[results,Tryz.results183,go_sem,z0,z1,z2,z3]) rfl ⟨by rw[HF.out];rfl,H1,by rw[HF.out];exact(dq.still (HA.out _ _ _ _).1 (ab.refl [] _).drew),aw.still (HA.out _ _ _ _).2 (ab.refl [] _).drew⟩
def eS(l:List St)(a:Nat)(fin:Pl):List (ByteArray×Pl)->List lW->List lW×oG
 | [],acc=>if acc.length=0 then([],(1,fin)) else(acc,cJ)
 | (t,p) :: r,acc =>
  if(t.toList == [63])=true then eS l a fin r (acc++[⟨1,0,p⟩])
  else match lg l t a with
   | none=>([],(2,p))
   | some n=>eS l a fin r (acc++[⟨2,n,p⟩])
theorem GI(l:List St)(a:Nat)(fin:Pl)(i:Nat)(ws:List (ByteArray×Pl))(acc:List lW)(hi:i<ws.length) :
  eS l a fin (ws.drop i) acc=if(ws[i].1.toList == [63])=true then eS l a fin (ws.drop (i+1)) (acc++[⟨1,0,ws[i].2⟩])
   else match lg l ws[i].1 a with
    | none=>([],(2,ws[i].2))
    | some n=>eS l a fin (ws.drop (i+1)) (acc++[⟨2,n,ws[i].2⟩]):=by
 rw[List.drop_eq_getElem_cons hi];rfl
theorem Ei(l:List St)(a:Nat)(fin:Pl)(i:Nat)(ws:List (ByteArray×Pl))(acc:List lW)(hi:¬i<ws.length):eS l a fin (ws.drop i) acc=if acc.length=0 then([],(1,fin)) else(acc,cJ):=by
 rw[List.drop_of_length_le (by omega)];rfl
theorem jq{w wr:World}{F:Nat}(K:ab [] w wr)(h1:w.heap.size<=F)(a0 a1 a2 a3:Value):ab [] w ((((wr.setCell ⟨F,0,none⟩ a0).setCell ⟨F,1,none⟩ a1).setCell ⟨F,2,none⟩ a2).setCell ⟨F,3,none⟩ a3) :=
 (((K.setCell (Or.inr h1) _).setCell (Or.inr h1) _).setCell (Or.inr h1) _).setCell (Or.inr h1) _
theorem Lr{w wr:World}{F:Nat}(K:ab [] w wr)(h1:w.heap.size<=F)(a0 a1 a2 a3 a4:Value):ab [] w (((((wr.setCell ⟨F,0,none⟩ a0).setCell ⟨F,1,none⟩ a1).setCell ⟨F,2,none⟩ a2).setCell ⟨F,3,none⟩ a3).setCell ⟨F,4,none⟩ a4) :=
 ((((K.setCell (Or.inr h1) _).setCell (Or.inr h1) _).setCell (Or.inr h1) _).setCell (Or.inr h1) _).setCell (Or.inr h1) _
set_option maxRecDepth 100000 in
theorem nO(rb ro a:Nat)(l:List St)(H:Nat->Hd)(w:World)(hr:eu w rb ro l H)(ha:a<l.length)(ok:jH l) :
  Calls Tryz.prog 139 #[.pointer (some ⟨rb,ro,none⟩),.int .i64 a] w fun e w'=>∃hd:Hd,
   e=.returned (.tuple #[.slice hd.ao (eS l a l[a].fin l[a].proof []).1.length hd.cap,gu (eS l a l[a].fin l[a].proof []).2])/\aA w' hd (fq (eS l a l[a].fin l[a].proof []).1)/\(∀x,hd.blk=some x->w.heap.size<=x)/\ab [] w w':=by
 obtain⟨i0,hi0,hz0,hz1,hz2⟩:=info_parts J5;have hbw:=hr.lt;have hlen:=ok.len;have hpl:=ok.prfs a ha;obtain⟨AO,HAO⟩:∃AO,Hid ((H (11+2*a)).ao=AO):=⟨_,rfl⟩
 obtain⟨W,hW⟩:∃W,W=w.alloc (.cells #[.int .i64 0,.string ⟨#[]⟩,.int .i64 0,.int .i64 0] 165):=⟨_,rfl⟩
 have K:ab [] w W:=by rw[hW];exact(ab.refl [] _).alloc _
 have BF:W.heap[w.heap.size]?=some (.cells a9 165 (0,0)):=by rw[hW];exact heap_alloc_new _ _
 have HW:=(show Hid _ from hW.symm);clear hW;go_enter Tryz.func139,Tryz.ntmps139
 go_upto_region 1 with fail
 rw[HW.out];go_wp2_with fail;refine(bb rb ro a l H _ (hr.still K) ha).mono ?_;rintro e w1 ⟨rfl,hk1⟩;unfold eI;rw[HAO.out];obtain⟨W2,hW2⟩:∃W2,W2=w1.alloc (.cells #[.int .i64 l[a].kind,.string l[a].label,.slice (H (10+2*a)).ao l[a].symbols.length (H (10+2*a)).cap,.slice AO l[a].proof.length (H (11+2*a)).cap,.string l[a].fin.file,.int .i64 l[a].fin.line,.int .i64 l[a].fin.col,.int .i64 l[a].til] 158):=⟨_,rfl⟩
 have HW2:=(show Hid _ from hW2.symm);have K2:ab [] w W2:=by rw[hW2];exact(K.trans hk1).alloc _
 obtain⟨TB,hTB⟩:∃TB:Array Value,TB=#[.int .i64 l[a].kind,.string l[a].label,.slice (H (10+2*a)).ao l[a].symbols.length (H (10+2*a)).cap,.slice AO l[a].proof.length (H (11+2*a)).cap,.string l[a].fin.file,.int .i64 l[a].fin.line,.int .i64 l[a].fin.col,.int .i64 l[a].til]:=⟨_,rfl⟩
 have BT:W2.heap[w1.heap.size]?=some (.cells TB 158 (0,0)):=by rw[hW2,hTB];exact heap_alloc_new _ _
 have BF2:W2.heap[w.heap.size]?=some (.cells a9 165 (0,0)):=by rw[hW2];exact((ab.refl [] _).alloc _).get (hk1.get BF (by simp)) (by simp)
 have hs1:w.heap.size<w1.heap.size:=by have:=ae (hk1.get BF (by simp));omega
 have hsT:=ae BT;have HTB:=(show Hid _ from hTB);clear hW2 hTB
 go_upto_region 2 with fail
 rw[HW2.out];clear HW HW2 hk1 BF K;go_wp2
 go_loopg [7,8] l[a].proof.length (fun gk sv iv wr=>∃(i:Nat) (acc:List lW) (hd:Hd),i<=l[a].proof.length/\gk=l[a].proof.length-i/\iv=.int .i64 i/\sv=.slice hd.ao acc.length hd.cap/\acc.length<=i/\Hid (eS l a l[a].fin l[a].proof []=eS l a l[a].fin (l[a].proof.drop i) acc)/\aA wr hd (fq acc)/\(∀x,hd.blk=some x->W2.heap.size<=x) /\
  ab [] W2 wr)
 case atStart=>exact⟨0,[],⟨none,0⟩,by omega,by omega,rfl,rfl,by simp,rfl,World.ownsRow_nil _ _ _ _,by intro x hx;simp[Hd.blk]at hx,ab.refl _ _⟩
 case round =>
  obtain⟨i,acc,hd,hi,hg,rfl,rfl,hal,hR,hO,hN,hK⟩:=hrel;have KW:=K2.trans hK;have hr':=hr.still KW;have B1:=hK.get BF2 (by simp);have B2:=hK.get BT (by simp);have hB1w:=ae B1;have hB2w:=ae B2;obtain⟨z0,z1,z2,z3⟩:=cD B1;have yz:=ak B1;have hOp:=hr'.sts.prfs a l[a] (List.getElem?_eq_getElem ha);have hsW:=K2.size
  by_cases hlt:i<l[a].proof.length
  ·obtain⟨gp,ep,ecap,ecap2,d0,d1,d2,d3⟩:=hOp.word i hlt
   obtain rfl:AO=some ⟨gp,0,none⟩:=HAO.out.symm.trans ep;have t3:wr.cell? ⟨w1.heap.size,3,none⟩=some (.slice (some ⟨gp,0,none⟩) l[a].proof.length (H (11+2*a)).cap):=by rw[aa B2,HTB.out];rfl
   have hgp:gp<wr.heap.size:=hOp.lt (by unfold Hd.blk;rw[ep];rfl);clear ep;have BL:=GI l a l[a].fin i l[a].proof acc hlt;have HBL:=(show Hid _ from hR.out.trans BL);clear BL hR hOp;generalize hwd:l[a].proof[i]=wd at *;obtain⟨t,pf,pl,pc⟩:=wd;simp only at d0 d1 d2 d3 HBL;obtain⟨W5,hW5⟩:∃W5,W5=(wr.alloc (.cells #[.string t,.string pf,.int .i64 pl,.int .i64 pc] 229)).alloc (.cells #[.int .i64 1,.int .i64 0,.string pf,.int .i64 pl,.int .i64 pc] 174):=⟨_,rfl⟩
   have K5:ab [] wr W5:=by rw[hW5];exact((ab.refl [] _).alloc _).alloc _
   have B5:W5.heap[wr.heap.size]?=some (.cells #[.string t,.string pf,.int .i64 pl,.int .i64 pc] 229 (0,0)):=by rw[hW5];exact((ab.refl [] _).alloc _).get (heap_alloc_new _ _) (by simp)
   have S5:W5.heap[wr.heap.size+1]?=some (.cells #[.int .i64 1,.int .i64 0,.string pf,.int .i64 pl,.int .i64 pc] 174 (0,0)):=by
    rw[hW5];have:=heap_alloc_new (wr.alloc (.cells #[.string t,.string pf,.int .i64 pl,.int .i64 pc] 229)) (.cells #[.int .i64 1,.int .i64 0,.string pf,.int .i64 pl,.int .i64 pc] 174);simpa using this
   have HW5:=(show Hid _ from hW5.symm);clear hW5
   go_upto_region 8 with fail
   rw[HW5.out];clear HW5 d0 d1 d2 d3 t3 z0 z1 z2 z3 yz;have v0:W5.cell? ⟨wr.heap.size,0,none⟩=some (.string t):=by rw[aa B5];rfl
   have v1:W5.cell? ⟨wr.heap.size,1,none⟩=some (.string pf):=by rw[aa B5];rfl
   have v2:W5.cell? ⟨wr.heap.size,2,none⟩=some (.int .i64 pl):=by rw[aa B5];rfl
   have v3:W5.cell? ⟨wr.heap.size,3,none⟩=some (.int .i64 pc):=by rw[aa B5];rfl
   have u0:W5.cell? ⟨wr.heap.size+1,0,none⟩=some (.int .i64 1):=by rw[aa S5];rfl
   have u1:W5.cell? ⟨wr.heap.size+1,1,none⟩=some (.int .i64 0):=by rw[aa S5];rfl
   have u2:W5.cell? ⟨wr.heap.size+1,2,none⟩=some (.string pf):=by rw[aa S5];rfl
   have u3:W5.cell? ⟨wr.heap.size+1,3,none⟩=some (.int .i64 pl):=by rw[aa S5];rfl
   have u4:W5.cell? ⟨wr.heap.size+1,4,none⟩=some (.int .i64 pc):=by rw[aa S5];rfl
   have yu:=ak S5;have hO5:aA W5 hd (fq acc):=hO.moved (fun x hx=>K5.block x (hO.lt hx) (by simp));have R5:=hr'.still K5;have F5:=K5.get B1 (by simp);obtain⟨z0,z1,z2,z3⟩:=cD F5;have yz:=ak F5;have HK5:Hid (ab [] W2 W5):=hK.trans K5;have hs5:=ae S5
   cases ht:(t.toList == [63])
   ·have ht':(t.toList != [63])=true:=by simp[bne,ht]
    rcases hf:lg l t a with _ | n
    ·have HF:Hid (eS l a l[a].fin l[a].proof []=([],(2,⟨pf,pl,pc⟩))):=by show _=_;rw[HBL.out,ht,hf];simp
     clear HBL
     go_upto_region 11 with (go_at_call 185;refine(fX rb ro a t l H _ (by exact R5) (by omega)).mono ?_;rintro e w6 ⟨rfl,hw6⟩;rw[hw6,hf];simp only[nK])
     go_region
     all_goals go_wp2
     all_goals exact bodyPost_ret (v:=.tuple #[.slice none 0 0,.agg #[.int .i64 2,.string pf,.int .i64 pl,.int .i64 pc]]) (by simp[results,Tryz.results139,go_sem,z0,z1,z2,z3]) rfl ⟨⟨none,0⟩,by rw[HF.out];rfl,by rw[HF.out];exact World.ownsRow_nil _ _ _ _,by intro x hx;simp[Hd.blk]at hx,(jq (K2.trans HK5.out) (Nat.le_refl _) _ _ _ _).drew⟩
    ·have HF:Hid (eS l a l[a].fin l[a].proof []=eS l a l[a].fin (l[a].proof.drop (i+1)) (acc++[⟨2,n,⟨pf,pl,pc⟩⟩])):=by show _=_;rw[HBL.out,ht,hf];simp
     clear HBL;obtain⟨W6,hW6⟩:∃W6,W6=((((W5.setCell ⟨wr.heap.size+1,0,none⟩ (.int .i64 2)).setCell ⟨wr.heap.size+1,1,none⟩ (.int .i64 n)).setCell ⟨wr.heap.size+1,2,none⟩ (.string pf)).setCell ⟨wr.heap.size+1,3,none⟩ (.int .i64 pl)).setCell ⟨wr.heap.size+1,4,none⟩ (.int .i64 pc):=⟨_,rfl⟩
     have k56:ab [wr.heap.size+1] W5 W6:=by rw[hW6];exact((((((ab.refl _ _).setCell (Or.inl (by simp)) _).setCell (Or.inl (by simp)) _).setCell (Or.inl (by simp)) _).setCell (Or.inl (by simp)) _).setCell (Or.inl (by simp)) _)
     have S6:W6.heap[wr.heap.size+1]?=some (.cells #[.int .i64 2,.int .i64 n,.string pf,.int .i64 pl,.int .i64 pc] 174 (0,0)):=by
      rw[hW6,ah (ah (ah (ah (ah S5 _ _) _ _) _ _) _ _)];rfl
     have HK6:Hid (ab [] W2 W6):=by
      show ab [] W2 W6
      rw[hW6];exact Lr HK5.out (by have:=hK.size;omega) _ _ _ _ _
     have hO6':aA W6 hd (fq acc):=hO5.moved (fun x hx=>k56.block x (hO5.lt hx) (by simp;rintro rfl;have:=hO.lt hx;omega));have HW6:=(show Hid _ from hW6.symm);clear hW6 k56
     go_upto_region 13 with (go_at_call 185;refine(fX rb ro a t l H _ (by exact R5) (by omega)).mono ?_;rintro e w6 ⟨rfl,hw6⟩;rw[hw6,hf];simp only[nK])
     rw[HW6.out];clear HW6 u0 u1 u2 u3 u4 yu;have u0:W6.cell? ⟨wr.heap.size+1,0,none⟩=some (.int .i64 2):=by rw[aa S6];rfl
     have u1:W6.cell? ⟨wr.heap.size+1,1,none⟩=some (.int .i64 n):=by rw[aa S6];rfl
     have u2:W6.cell? ⟨wr.heap.size+1,2,none⟩=some (.string pf):=by rw[aa S6];rfl
     have u3:W6.cell? ⟨wr.heap.size+1,3,none⟩=some (.int .i64 pl):=by rw[aa S6];rfl
     have u4:W6.cell? ⟨wr.heap.size+1,4,none⟩=some (.int .i64 pc):=by rw[aa S6];rfl
     have hO6:=hO6'.moved (fun x hx=>((ab.refl [] W6).alloc (.cells #[.int .i64 2,.int .i64 n,.string pf,.int .i64 pl,.int .i64 pc] 174)).block x (hO6'.lt hx) (by simp));have K6:Hid (ab [] W2 (W6.alloc (.cells #[.int .i64 2,.int .i64 n,.string pf,.int .i64 pl,.int .i64 pc] 174))):=ab.alloc HK6.out _;clear z0 z1 z2 z3 yz v0 v1 v2 v3;go_wp2_with (at_builtin;refine aM _ rfl (.tmp 47) (.tmp 49) 163 rfl i0 (.agg #[.int .i64 0,.int .i64 0,.string ⟨#[]⟩,.int .i64 0,.int .i64 0]) 48 hd (fq acc) Tryz.underlying163 hi0 hz0 hz1 hz2 rfl (Nat.succ_pos 4) rfl (by exact hO6) ⟨_,0,none⟩ 1 1 (jK ⟨2,n,⟨pf,pl,pc⟩⟩) rfl rfl ?e1 (rr _) Nat.one_pos ?e3 ?e4 ?_)
     case e1 =>
      intro j u hj;have hk:(W6.alloc (.cells #[.int .i64 2,.int .i64 n,.string pf,.int .i64 pl,.int .i64 pc] 174)).heap[W6.heap.size]?=some (.cells #[.int .i64 2,.int .i64 n,.string pf,.int .i64 pl,.int .i64 pc] 174 (0,0)):=heap_alloc_new _ _;rw[bK,aa hk];simpa [jK] using hj
     case e3=>simp only[fq];unfold maxLen;omega
     case e4=>simp only[fq];omega
     intro g8 cap8 w8 hw8 hgr8 hfresh8;rw[rh acc ⟨2,n,⟨pf,pl,pc⟩⟩]at hw8;have hK8:=(K6.out).grown hgr8 hN
     have hg8:W2.heap.size<=g8:=by
      rcases hfresh8 with e | e
      ·exact hN g8 e
      ·have:=K6.out.size;simp at e this;omega
     have hEl:Hid ((fq acc).n+1=(acc++[(⟨2,n,⟨pf,pl,pc⟩⟩:lW)]).length):=by show _=_;simp[fq]
     rw[hEl.out];clear hgr8 hfresh8 hO6;go_wp2
     go_roundg (l[a].proof.length-(i+1))
     case measure=>omega
     case rel=>exact⟨i+1,acc++[⟨2,n,⟨pf,pl,pc⟩⟩],⟨some ⟨g8,0,none⟩,cap8⟩,by omega,rfl,by go_num,rfl,by simp;omega,HF,hw8,by intro x hx;simp[Hd.blk]at hx;omega,hK8⟩
   ·have ht':(t.toList != [63])=false:=by simp[bne,ht]
    have HF:Hid (eS l a l[a].fin l[a].proof []=eS l a l[a].fin (l[a].proof.drop (i+1)) (acc++[⟨1,0,⟨pf,pl,pc⟩⟩])):=by show _=_;rw[HBL.out,ht];simp
    clear HBL;have hO6:=hO5.moved (fun x hx=>((ab.refl [] W5).alloc (.cells #[.int .i64 1,.int .i64 0,.string pf,.int .i64 pl,.int .i64 pc] 174)).block x (hO5.lt hx) (by simp));have K6:Hid (ab [] W2 (W5.alloc (.cells #[.int .i64 1,.int .i64 0,.string pf,.int .i64 pl,.int .i64 pc] 174))):=ab.alloc HK5.out _;clear z0 z1 z2 z3 yz
    go_upto_region 13 with fail
    clear v0 v1 v2 v3;go_wp2_with (at_builtin;refine aM _ rfl (.tmp 47) (.tmp 49) 163 rfl i0 (.agg #[.int .i64 0,.int .i64 0,.string ⟨#[]⟩,.int .i64 0,.int .i64 0]) 48 hd (fq acc) Tryz.underlying163 hi0 hz0 hz1 hz2 rfl (Nat.succ_pos 4) rfl (by exact hO6) ⟨_,0,none⟩ 1 1 (jK ⟨1,0,⟨pf,pl,pc⟩⟩) rfl rfl ?e1 (rr _) Nat.one_pos ?e3 ?e4 ?_)
    case e1 =>
     intro j u hj;have hk:(W5.alloc (.cells #[.int .i64 1,.int .i64 0,.string pf,.int .i64 pl,.int .i64 pc] 174)).heap[W5.heap.size]?=some (.cells #[.int .i64 1,.int .i64 0,.string pf,.int .i64 pl,.int .i64 pc] 174 (0,0)):=heap_alloc_new _ _;rw[bK,aa hk];simpa [jK] using hj
    case e3=>simp only[fq];unfold maxLen;omega
    case e4=>simp only[fq];omega
    intro g8 cap8 w8 hw8 hgr8 hfresh8;rw[rh acc ⟨1,0,⟨pf,pl,pc⟩⟩]at hw8;have hK8:=(K6.out).grown hgr8 hN
    have hg8:W2.heap.size<=g8:=by
     rcases hfresh8 with e | e
     ·exact hN g8 e
     ·have:=K6.out.size;simp at e this;omega
    have hEl:Hid ((fq acc).n+1=(acc++[(⟨1,0,⟨pf,pl,pc⟩⟩:lW)]).length):=by show _=_;simp[fq]
    rw[hEl.out];clear hgr8 hfresh8 hO6;go_wp2
    go_roundg (l[a].proof.length-(i+1))
    case measure=>omega
    case rel=>exact⟨i+1,acc++[⟨1,0,⟨pf,pl,pc⟩⟩],⟨some ⟨g8,0,none⟩,cap8⟩,by omega,rfl,by go_num,rfl,by simp;omega,HF,hw8,by intro x hx;simp[Hd.blk]at hx;omega,hK8⟩
  ·have HF:Hid (eS l a l[a].fin l[a].proof []=if acc.length=0 then([],(1,l[a].fin)) else(acc,cJ)):=hR.out.trans (Ei l a l[a].fin i l[a].proof acc hlt)
   have t3:wr.cell? ⟨w1.heap.size,3,none⟩=some (.slice AO l[a].proof.length (H (11+2*a)).cap):=by rw[aa B2,HTB.out];rfl
   have t4:wr.cell? ⟨w1.heap.size,4,none⟩=some (.string l[a].fin.file):=by rw[aa B2,HTB.out];rfl
   have t5:wr.cell? ⟨w1.heap.size,5,none⟩=some (.int .i64 l[a].fin.line):=by rw[aa B2,HTB.out];rfl
   have t6:wr.cell? ⟨w1.heap.size,6,none⟩=some (.int .i64 l[a].fin.col):=by rw[aa B2,HTB.out];rfl
   clear hR hOp
   by_cases hz:acc.length=0
   ·have hz1:((acc.length:Int)==0)=true:=by simp[hz]
    have HF2:Hid (eS l a l[a].fin l[a].proof []=([],(1,l[a].fin))):=by show _=_;rw[HF.out,if_pos hz]
    clear HF hz
    go_upto_region 15 with fail
    go_region
    all_goals go_wp2
    all_goals exact bodyPost_ret (v:=.tuple #[.slice none 0 0,.agg #[.int .i64 1,.string l[a].fin.file,.int .i64 l[a].fin.line,.int .i64 l[a].fin.col]]) (by simp[results,Tryz.results139,go_sem,z0,z1,z2,z3]) rfl ⟨⟨none,0⟩,by rw[HF2.out];rfl,by rw[HF2.out];exact World.ownsRow_nil _ _ _ _,by intro x hx;simp[Hd.blk]at hx,(jq KW (Nat.le_refl _) _ _ _ _).drew⟩
   ·have hz1:((acc.length:Int)==0)=false:=beq_eq_false_iff_ne.2 (by omega)
    have HF2:Hid (eS l a l[a].fin l[a].proof []=(acc,cJ)):=by show _=_;rw[HF.out,if_neg hz]
    clear HF hz;go_wp2
    exact bodyPost_ret (v:=.tuple #[.slice hd.ao acc.length hd.cap,.agg #[.int .i64 0,.string ⟨#[]⟩,.int .i64 0,.int .i64 0]]) (by simp[results,Tryz.results139,go_sem,z0,z1,z2,z3]) rfl
     ⟨hd,by rw[HF2.out];rfl,by rw[HF2.out];exact hO.moved (fun x hx=>(ig (r:=w.heap.size) _ _ _ _).block x (hO.lt hx) (by simp;rintro rfl;have:=hN _ hx;omega)),fun x hx=>Nat.le_trans hsW (hN x hx),jq KW (Nat.le_refl _) _ _ _ _⟩
end Go.Proofs.YtpddjjabfbfifaaGreat
