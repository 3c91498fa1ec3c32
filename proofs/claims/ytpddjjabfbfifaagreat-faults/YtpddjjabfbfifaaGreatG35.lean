import Derived.Test.YtpddjjabfbfifaaGreatG34
namespace Go.Proofs.YtpddjjabfbfifaaGreat
open Go.RowKit
set_option maxHeartbeats 40000000
def Eq:jD:=⟨[],0,⟨#[]⟩,0,0⟩
def LG(S:List Sm)(a:Nat):Bool:=(au S a).k.toList == [36,97]
def vf(S:List Sm)(a:Nat):Bool:=(au S a).k.toList == [36,112]
def zj(S:List Sm)(pf:Nat->jD)(a:Nat):jD:=if vf S a=true then pf a else Eq
def ET(T:List Tk)(S:List Sm)(jr:Nat->jL)(a:Nat):jL:=if LG S a=true then⟨cd T (au S a),1,0,⟨#[]⟩,0,0⟩ else if vf S a=true then jr a else JG
theorem uk{α:Type}(f:Nat->α)(k:Nat):(List.range (k+1)).map f=(List.range k).map f++[f k]:=by
 rw[List.range_succ,List.map_append];rfl
theorem Bj(x:jD×Hd):∀u∈Jr x,u.oneCell'=true:=by
 intro u hu;unfold Jr at hu;simp only[List.mem_cons,List.not_mem_nil,or_false]at hu;rcases hu with rfl | rfl | rfl | rfl | rfl <;> rfl
theorem Bu(x:jL):∀u∈mT x,u.oneCell'=true:=by
 intro u hu;unfold mT at hu;simp only[List.mem_cons,List.not_mem_nil,or_false]at hu;rcases hu with rfl | rfl | rfl | rfl | rfl | rfl <;> rfl
theorem ue{w:World}{B:Nat}{a0 a1 a2 a3 a4:Value}(h:w.heap[B]?=some (.cells #[a0,a1,a2,a3,a4] 122 (0,0))) :
  (w.cell? ⟨B,0,none⟩=some a0/\w.cell? ⟨B,1,none⟩=some a1/\w.cell? ⟨B,2,none⟩=some a2/\w.cell? ⟨B,3,none⟩=some a3/\w.cell? ⟨B,4,none⟩=some a4) /\
  (w.frozen? ⟨B,0,none⟩=false/\w.frozen? ⟨B,1,none⟩=false/\w.frozen? ⟨B,2,none⟩=false/\w.frozen? ⟨B,3,none⟩=false/\w.frozen? ⟨B,4,none⟩=false)/\B<w.heap.size:=by
 refine⟨⟨?_,?_,?_,?_,?_⟩,⟨ak h 0,ak h 1,ak h 2,ak h 3,ak h 4⟩,ae h⟩
 all_goals (rw[aa h];rfl)
theorem qn{w:World}{B:Nat}{a0 a1 a2 a3 a4 a5:Value}(h:w.heap[B]?=some (.cells #[a0,a1,a2,a3,a4,a5] 38 (0,0))) :
  (w.cell? ⟨B,0,none⟩=some a0/\w.cell? ⟨B,1,none⟩=some a1/\w.cell? ⟨B,2,none⟩=some a2/\w.cell? ⟨B,3,none⟩=some a3/\w.cell? ⟨B,4,none⟩=some a4/\w.cell? ⟨B,5,none⟩=some a5) /\
  (w.frozen? ⟨B,0,none⟩=false/\w.frozen? ⟨B,1,none⟩=false/\w.frozen? ⟨B,2,none⟩=false/\w.frozen? ⟨B,3,none⟩=false/\w.frozen? ⟨B,4,none⟩=false/\w.frozen? ⟨B,5,none⟩=false)/\B<w.heap.size:=by
 refine⟨⟨?_,?_,?_,?_,?_,?_⟩,⟨ak h 0,ak h 1,ak h 2,ak h 3,ak h 4,ak h 5⟩,ae h⟩
 all_goals (rw[aa h];rfl)
def vv(S:List Sm)(PS:List (jD×Hd))(RS:List jL)(a:Nat):Prop:=∀t,t<=a->Reach PS RS a t->vf S t=true->fk RS t=true
structure qB(S:List Sm)(PS:List (jD×Hd))(RS RS':List jL)(n:Nat):Prop where
 len:RS'.length=RS.length
 old:∀a,n<=a->gN RS' a=gN RS a
 yes:∀a,a<n->(gN RS a).verdict=4->vv S PS RS a->gN RS' a={ gN RS a with verdict:=5 }
 no:∀a,a<n->¬((gN RS a).verdict=4/\vv S PS RS a)->gN RS' a=gN RS a
theorem uB(RS:List jL)(k a:Nat)(r:jL)(h:k<RS.length):gN (RS.set k r) a=if a=k then r else gN RS a:=by
 unfold gN;rw[List.getD_eq_getElem?_getD,List.getElem?_set,List.getD_eq_getElem?_getD]
 by_cases e:k=a
 ·subst e;rw[if_pos rfl,if_pos rfl,if_pos h];rfl
 ·rw[if_neg e,if_neg (fun q=>e q.symm)]
theorem qB.same{S:List Sm}{PS:List (jD×Hd)}{RS RS':List jL}{n:Nat}(h:qB S PS RS RS' n)(hn:¬((gN RS n).verdict=4/\vv S PS RS n)):qB S PS RS RS' (n+1) :=
 ⟨h.len,fun a ha=>h.old a (by omega),fun a ha h4 hg=>by
  by_cases e:a=n
  ·subst e;exact absurd ⟨h4,hg⟩ hn
  ·exact h.yes a (by omega) h4 hg,fun a ha hna=>by
  by_cases e:a=n
  ·subst e;exact h.old a (Nat.le_refl _)
  ·exact h.no a (by omega) hna⟩
theorem qB.turn{S:List Sm}{PS:List (jD×Hd)}{RS RS':List jL}{n:Nat}(h:qB S PS RS RS' n)(hl:n<RS.length)(h4:(gN RS n).verdict=4)(hg:vv S PS RS n):qB S PS RS (RS'.set n { gN RS' n with verdict:=5 }) (n+1):=by
 have hl':n<RS'.length:=by rw[h.len];exact hl
 refine⟨by rw[List.length_set];exact h.len,fun a ha=>?_,fun a ha q4 qg=>?_,fun a ha hna=>?_⟩
 ·rw[uB _ _ _ _ hl',if_neg (by omega)];exact h.old a (by omega)
 ·rw[uB _ _ _ _ hl']
  by_cases e:a=n
  ·subst e;rw[if_pos rfl,h.old a (Nat.le_refl _)]
  ·rw[if_neg e];exact h.yes a (by omega) q4 qg
 ·rw[uB _ _ _ _ hl']
  by_cases e:a=n
  ·subst e;exact absurd ⟨h4,hg⟩ hna
  ·rw[if_neg e];exact h.no a (by omega) hna
theorem qB.sound{S:List Sm}{PS:List (jD×Hd)}{RS RS':List jL}{n:Nat}(h:qB S PS RS RS' n)(t:Nat):fk RS' t=fk RS t:=by
 by_cases ht:t<n
 ·by_cases e:(gN RS t).verdict=4/\vv S PS RS t
  ·unfold fk;rw[h.yes t ht e.1 e.2,e.1];rfl
  ·unfold fk;rw[h.no t ht e]
 ·unfold fk;rw[h.old t (by omega)]
theorem Reach.of{PS:List (jD×Hd)}{RS RS':List jL}(hs:∀t,fk RS' t=fk RS t){a k:Nat}(h:Reach PS RS' a k):Reach PS RS a k:=by
 induction h with
 | self=>exact Reach.self
 | step _ h2 h3 h4 ih=>exact Reach.step ih (by rw[<-hs];exact h2) h3 h4
theorem II{T:List Tk}{S:List Sm}{PS:List (jD×Hd)}{RS RS':List jL}{n a:Nat}(h:qB S PS RS RS' n){inn:List Bool}(hi:∀k,inn.getD k false=true ↔ Reach PS RS' a k):(Am T S RS' inn (a+1)).length=0 ↔ vv S PS RS a:=by
 have hs:=h.sound;unfold Am;rw[List.length_map,List.length_eq_zero_iff,List.filter_eq_nil_iff]
 constructor
 ·intro hn t ht hr hp
  have hr':Reach PS RS' a t:=Reach.of (fun t=>(hs t).symm) hr;have:=hn t (List.mem_range.2 (by omega));unfold Lj at this;rw[(hi t).2 hr']at this;unfold vf at hp;rw[hp,hs t]at this
  cases e:fk RS t
  ·rw[e]at this;exact absurd rfl this
  ·rfl
 ·intro hg t ht hb
  have ht:=List.mem_range.1 ht;unfold Lj at hb;rw[Bool.and_eq_true,Bool.and_eq_true]at hb;have:=hg t (by omega) (Reach.of hs ((hi t).1 hb.1)) hb.2.1;rw[hs t,this]at hb;exact absurd hb.2.2 (by simp)
theorem GK{w:World}{h:Hd}{r:dK}(o:aA w h r){g:Nat}(hg:h.ao=some ⟨g,0,none⟩)(j:Nat):w.frozen? ⟨g,j,none⟩=false:=by
 rcases o.ways with ⟨e,-,-⟩ | ⟨g',u',e,hb,-⟩
 ·rw[e]at hg;cases hg
 ·rw[e]at hg;cases hg;exact ak hb j
def Ft(T:List Tk)(S:List Sm)(v b:Nat)(x0 x1:Value)(pf:Nat->jD)(jr:Nat->jL)(w:World)(e:Ending)(w':World):Prop :=
 ∃(PS:List (jD×Hd)) (h1 h2:Hd) (RS':List jL),e=.returned (.tuple #[])/\PS.map (·.1)=(List.range S.length).map (zj S pf)/\qB S PS ((List.range S.length).map (ET T S jr)) RS' S.length/\uU w w' v b x0 x1 PS h1 RS' h2
set_option maxRecDepth 100000 in
theorem AQ(v b:Nat)(T:List Tk)(aoT:Option Addr)(cT:Nat)(S:List Sm)(aoS:Option Addr)(cS:Nat)(x0 x1 y3 y4:Value)(pf:Nat->jD)(jr:Nat->jL)(w:World)
  (hv:w.heap[v]?=some (.cells #[x0,x1,.pointer (some ⟨b,0,none⟩),y3,y4] 85 (0,0)))
  (hD:∀wx,ab [v] w wx->eW wx b T aoT cT S aoS cS) (hS:S.length<=10000) (hA:∀j,j<S.length->(au S j).a<T.length)
  (hDec:∀a,a<S.length->vf S a=true->∀wx,ab [v] w wx->Calls Tryz.prog 88 #[.pointer (some ⟨b,0,none⟩),.int .i64 a] wx fun e w'=>mv wx (pf a) e w')
  (hVer:∀a,a<S.length->vf S a=true->∀(hp:Hd) (wx:World),ab [v] w wx->cG wx hp.ao 6 j5 (pf a).st->Calls Tryz.prog 89 #[.pointer (some ⟨b,0,none⟩),.int .i64 a,.agg #[.slice hp.ao (pf a).st.length hp.cap,.int .i64 (pf a).why,.string (pf a).file,.int .i64 (pf a).line,.int .i64 (pf a).col]] wx fun e w'=>Fz wx (jr a) e w')
  (hRf:∀a,a<S.length->vf S a=true->(pf a).st.length<=100000000/\∀i,i<(pf a).st.length->(bG (pf a).st i).ref<=(a:Int)) :
  Calls Tryz.prog 57 #[.pointer (some ⟨v,0,none⟩)] w fun e w'=>Ft T S v b x0 x1 pf jr w e w':=by
 obtain⟨iP,hiP,hzP0,hzP1,hzP2⟩:=info_parts Kr;obtain⟨iR,hiR,hzR0,hzR1,hzR2⟩:=info_parts Ja;have b1:=ah hv 4 (.slice none 0 0);have b2:=ah b1 3 (.slice none 0 0);obtain⟨W0,HW0⟩:∃W0,Hid ((w.setCell ⟨v,4,none⟩ (.slice none 0 0)).setCell ⟨v,3,none⟩ (.slice none 0 0)=W0):=⟨_,rfl⟩
 have JD0:Hid (uU w W0 v b x0 x1 [] ⟨none,0⟩ [] ⟨none,0⟩):=by
  refine⟨by rw[<-HW0.out];exact b2,ae hv,World.ownsRow_nil _ _ _ _,World.ownsRow_nil _ _ _ _,(by intro k hk;cases hk),(by intro k hk;cases hk),(by intro k hk;cases hk),by rw[<-HW0.out];exact((ab.refl [v] w).setCell (Or.inl (by simp)) _).setCell (Or.inl (by simp)) _,(by intro x hx;cases hx),(by intro x hx;cases hx)⟩
 have c4:w.cell? ⟨v,4,none⟩=some y4:=by rw[aa hv];rfl
 have e4:=ak hv 4;have c3:(w.setCell ⟨v,4,none⟩ (.slice none 0 0)).cell? ⟨v,3,none⟩=some y3:=by rw[aa b1];rfl
 have e3:=ak b1 3;have hz:=ae hv;have hz1:=ae b1;have HD:=(show Hid _ from hD);have HA:=(show Hid _ from hA);have HDEC:=(show Hid _ from hDec);have HVER:=(show Hid _ from hVer);have HRF:=(show Hid _ from hRf);have HLT:=(show Hid _ from ae hv);clear hD hA hDec hVer hRf b1 b2 hv;go_enter Tryz.func57,Tryz.ntmps57
 go_upto_region 2 with fail
 rw[HW0.out];clear c4 e4 c3 e3 hz hz1;go_wp2
 go_loopg [2] S.length (fun g iv wr=>∃(k:Nat) (PS:List (jD×Hd)) (RS:List jL) (h1 h2:Hd),k<=S.length/\g=S.length-k/\iv=.int .i64 k/\Hid (PS.length=k/\RS.length=k)/\Hid (PS.map (·.1)=(List.range k).map (zj S pf))/\Hid (RS=(List.range k).map (ET T S jr))/\Hid (uU w wr v b x0 x1 PS h1 RS h2))
 case atStart=>exact⟨0,[],[],⟨none,0⟩,⟨none,0⟩,by omega,rfl,rfl,⟨rfl,rfl⟩,rfl,rfl,JD0⟩
 case round =>
  obtain⟨k,PS,RS,h1,h2,hk,hg,rfl,HL,HPS,HRS,HJ0⟩:=hrel
  by_cases hlt:k<S.length
  ·have hki:(k:Int)<(S.length:Int):=by omega
   obtain⟨W,HW⟩:∃W,Hid ((wr.alloc (.cells #[.slice none 0 0,.int .i64 0,.string ⟨#[]⟩,.int .i64 0,.int .i64 0] 122)).alloc (.cells #[.string ⟨#[]⟩,.int .i64 0,.int .i64 0,.string ⟨#[]⟩,.int .i64 0,.int .i64 0] 38)=W):=⟨_,rfl⟩
   have HKW:Hid (ab [] wr W):=by show ab [] wr W;rw[<-HW.out];exact((ab.refl [] _).alloc _).alloc _
   have HBP:Hid (W.heap[wr.heap.size]?=some (.cells #[.slice none 0 0,.int .i64 0,.string ⟨#[]⟩,.int .i64 0,.int .i64 0] 122 (0,0))):=by
    show _=_
    rw[<-HW.out];exact((ab.refl [] _).alloc _).get (heap_alloc_new _ _) (by simp)
   have HBR:Hid (W.heap[wr.heap.size+1]?=some (.cells #[.string ⟨#[]⟩,.int .i64 0,.int .i64 0,.string ⟨#[]⟩,.int .i64 0,.int .i64 0] 38 (0,0))):=by
    show _=_
    rw[<-HW.out];have:=heap_alloc_new (wr.alloc (.cells #[.slice none 0 0,.int .i64 0,.string ⟨#[]⟩,.int .i64 0,.int .i64 0] 122)) (.cells #[.string ⟨#[]⟩,.int .i64 0,.int .i64 0,.string ⟨#[]⟩,.int .i64 0,.int .i64 0] 38);simpa using this
   have HJ:=(show Hid _ from HJ0.out.still HKW.out);have HBL:Hid ((∀q,h1.blk=some q->q<wr.heap.size)/\(∀q,h2.blk=some q->q<wr.heap.size)/\v<wr.heap.size/\w.heap.size<=wr.heap.size):=⟨fun q hq=>HJ0.out.o1.lt hq,fun q hq=>HJ0.out.o2.lt hq,ae HJ0.out.d,HJ0.out.kept.size⟩
   have HSC:Hid (∀w':World,ab [v] w w'->w'.cell? ⟨v,2,none⟩=some (.pointer (some ⟨b,0,none⟩))->v<w'.heap.size->∃gs,aoS=some ⟨gs,0,none⟩/\gs<w'.heap.size/\w'.cell? ⟨b,1,none⟩=some (.slice aoS S.length cS)/\b<w'.heap.size/\w'.cell? ⟨gs,k*4+3,none⟩=some (.string (au S k).k)):=fun w' kw _ _=>by
    have hd:=HD.out w' kw;obtain⟨-,s0,hb⟩:=hd.cells;obtain⟨gs,e3,hgs,-,-,-,q3⟩:=hd.s.2 k S[k] (List.getElem?_eq_getElem hlt);rw[bC S k hlt]at q3;exact⟨gs,e3,hgs,s0,hb,q3⟩
   have HV2:Hid (∀(w':World) PS h1 RS h2,uU w w' v b x0 x1 PS h1 RS h2->w'.cell? ⟨v,2,none⟩=some (.pointer (some ⟨b,0,none⟩))/\v<w'.heap.size):=fun w' PS h1 RS h2 a=>⟨by rw[aa a.d];rfl,ae a.d⟩
   have HLB:Hid (∀wx,ab [v] w wx->Calls Tryz.prog 87 #[.pointer (some ⟨b,0,none⟩),.int .i64 k] wx fun e w'=>e=.returned (.string (cd T (au S k)))/\ab [] wx w'):=fun wx kx=>by
    have:=oc b k T aoT cT S aoS cS wx (HD.out wx kx) hlt (by rw[bC S k hlt];exact HA.out k hlt);rw[bC S k hlt]at this;exact this
   have HDC:=(show Hid _ from HDEC.out k hlt);have HVD:=(show Hid _ from HVER.out k hlt);have HPk:Hid (zj S pf k=if((au S k).k.toList == [36,112])=true then pf k else Eq):=rfl;have HRk:Hid (ET T S jr k=if((au S k).k.toList == [36,97])=true then⟨cd T (au S k),1,0,⟨#[]⟩,0,0⟩ else if((au S k).k.toList == [36,112])=true then jr k else JG):=rfl;have HNP:Hid (∀x:jD×Hd,x.1=zj S pf k->(PS++[x]).map (·.1)=(List.range (k+1)).map (zj S pf)):=fun x hx=>by rw[uk,List.map_append,HPS.out,<-hx];rfl
   have HNR:Hid (∀r,r=ET T S jr k->RS++[r]=(List.range (k+1)).map (ET T S jr)):=fun r hr=>by rw[uk,hr,<-HRS.out]
   have HL2:Hid (∀(x:jD×Hd) (r:jL),(PS++[x]).length=k+1/\(RS++[r]).length=k+1):=fun x r=>⟨by rw[List.length_append,HL.out.1];rfl,by rw[List.length_append,HL.out.2];rfl⟩
   have HIP:Hid (((au S k).k.toList == [36,112])=true->vf S k=true):=fun h=>h
   obtain⟨lb,Hlb⟩:∃lb,Hid (cd T (au S k)=lb):=⟨_,rfl⟩
   rw[Hlb.out]at HLB HRk;obtain⟨v2,vz⟩:=HV2.out W _ _ _ _ HJ.out;obtain⟨v2r,vzr⟩:=HV2.out wr _ _ _ _ HJ0.out;obtain⟨gs,rfl,hgs,s0,hbz,q3⟩:=HSC.out W HJ.out.kept v2 vz;obtain⟨gsr,er,-,s0r,hbr,-⟩:=HSC.out wr HJ0.out.kept v2r vzr;clear er;have hk0:(0:Int)<=(k:Int):=by omega
   generalize (au S k).k=sk at *;have s5:Hid ((fj PS).n<=900000000):=by show PS.length<=_;rw[HL.out.1];omega
   have s6:Hid ((iI RS).n<=900000000):=by show RS.length<=_;rw[HL.out.2];omega
   have HPn:Hid ((fj PS).n=PS.length):=rfl;have HRn:Hid ((iI RS).n=RS.length):=rfl
   go_upto_region 7 with fail
   rw[HW.out];clear v2r vzr s0r hbr;have HXS0:Hid (cG W (none:Option Addr) 6 j5 ([]:List cQ)):=by intro j x hx;cases hx
   have HXF0:Hid (Fr w h1 h2 (Eq,⟨none,0⟩)):=by intro g e;cases e
   have HXL0:Hid (∀g,(none:Option Addr)=some ⟨g,0,none⟩->g<W.heap.size):=by intro g e;cases e
   cases hka:(sk.toList == [36,97])
   ·rw[hka,if_neg (by simp)]at HRk
    cases hkp:(sk.toList == [36,112])
    ·rw[hkp,if_neg (by simp)]at HRk HPk
     go_upto_region 13 with fail
     clear v2 vz hgs s0 hbz q3;obtain⟨⟨p0,p1,p2,p3,p4⟩,-,pz⟩:=ue HBP.out;have v3:W.cell? ⟨v,3,none⟩=some (.slice h1.ao PS.length h1.cap):=by rw[aa HJ.out.d];rfl
     have vz3:=ae HJ.out.d;have hOw:=HJ.out.o1;have s3p:Hid (∀u∈([.slice none 0 0,.int .i64 0,.string ⟨#[]⟩,.int .i64 0,.int .i64 0]:List Value),u.oneCell'=true):=Bj (Eq,⟨none,0⟩)
     go_region_law (refine bD W rfl (.tmp 77) (.tmp 79) 83 rfl iP (.agg #[.slice none 0 0,.int .i64 0,.string ⟨#[]⟩,.int .i64 0,.int .i64 0]) 64 h1 (fj PS) [.slice none 0 0,.int .i64 0,.string ⟨#[]⟩,.int .i64 0,.int .i64 0] Tryz.underlying83 hiP hzP0 hzP1 hzP2 rfl (show 0<5 by omega) (by rw[HPn.out];simp[Act.eval]) hOw s5.out (by omega) (by simp[Act.eval]) rfl s3p.out ?_;intro ao5 cap5 w5 hw5 hg5)
     all_goals
      rw[show([.slice none 0 0,.int .i64 0,.string ⟨#[]⟩,.int .i64 0,.int .i64 0]:List Value)=Jr (Eq,⟨none,0⟩) from rfl,nR]at hw5;have HJ5:Hid (uU w (w5.setCell ⟨v,3,none⟩ (.slice ao5 ((fj PS).n+1) cap5)) v b x0 x1 (PS++[(Eq,⟨none,0⟩)]) ⟨ao5,cap5⟩ RS h2):=HJ.out.addP (Eq,⟨none,0⟩) HXS0.out HXF0.out HXL0.out hg5 hw5 ((fj PS).n+1) rfl;obtain⟨X5,HX5⟩:∃X5,Hid (w5.setCell ⟨v,3,none⟩ (.slice ao5 ((fj PS).n+1) cap5)=X5):=⟨_,rfl⟩
      have d5:=hg5.kept.get HJ.out.d (fun hq=>by have:=HJ.out.f1 _ (aK hq);have:=HJ.out.lt;omega);have c5:w5.cell? ⟨v,3,none⟩=some (.slice h1.ao PS.length h1.cap):=by rw[aa d5];rfl
      have e5:=ak d5 3;have z5:=ae d5
      have HBR5:Hid (X5.heap[wr.heap.size+1]?=some (.cells #[.string ⟨#[]⟩,.int .i64 0,.int .i64 0,.string ⟨#[]⟩,.int .i64 0,.int .i64 0] 38 (0,0))):=by
       show _=_
       rw[<-HX5.out];exact((ab.refl [v] _).setCell (Or.inl (by simp)) _).get (hg5.kept.get HBR.out (fun hq=>by have:=HBL.out.1 _ (aK hq);omega)) (by have:=HBL.out.2.2.1;simp;omega)
      rw[HX5.out]at HJ5;clear v3 vz3 p0 p1 p2 p3 p4 pz hOw hw5 hg5 d5
      go_upto_region 15 with fail
      rw[HX5.out];clear c5 e5 z5;obtain⟨⟨r0,r1,r2,r3,r4,r5⟩,-,rz⟩:=qn HBR5.out;have v4:X5.cell? ⟨v,4,none⟩=some (.slice h2.ao RS.length h2.cap):=by rw[aa HJ5.out.d];rfl
      have vz5:=ae HJ5.out.d;have hOr:=HJ5.out.o2;have s3r:Hid (∀u∈([.string ⟨#[]⟩,.int .i64 0,.int .i64 0,.string ⟨#[]⟩,.int .i64 0,.int .i64 0]:List Value),u.oneCell'=true):=Bu JG
      go_region_law (refine bD X5 rfl (.tmp 89) (.tmp 91) 54 rfl iR (.agg #[.string ⟨#[]⟩,.int .i64 0,.int .i64 0,.string ⟨#[]⟩,.int .i64 0,.int .i64 0]) 64 h2 (iI RS) [.string ⟨#[]⟩,.int .i64 0,.int .i64 0,.string ⟨#[]⟩,.int .i64 0,.int .i64 0] Tryz.underlying54 hiR hzR0 hzR1 hzR2 rfl (show 0<6 by omega) (by rw[HRn.out];simp[Act.eval]) hOr s6.out (by omega) (by simp[Act.eval]) rfl s3r.out ?_;intro ao6 cap6 w6 hw6 hg6;have d6:=hg6.kept.get HJ5.out.d (fun hq=>by have:=HJ5.out.f2 _ (aK hq);have:=HJ5.out.lt;omega);have f6:=ak d6 4;have c6:w6.cell? ⟨v,4,none⟩=some (.slice h2.ao RS.length h2.cap):=(by rw[aa d6];rfl);have z6:=ae d6)
      all_goals
       rw[show([.string ⟨#[]⟩,.int .i64 0,.int .i64 0,.string ⟨#[]⟩,.int .i64 0,.int .i64 0]:List Value)=mT JG from rfl,pv]at hw6;have HJ6:=(show Hid _ from HJ5.out.addR JG hg6 hw6 ((iI RS).n+1) rfl);clear hw6 hg6 d6 f6 c6 z6 r0 r1 r2 r3 r4 r5 rz v4 vz5 hOr;go_wp2
       go_roundg (S.length-(k+1))
       case measure=>omega
       case rel=>exact⟨k+1,PS++[(Eq,⟨none,0⟩)],RS++[JG],⟨ao5,cap5⟩,⟨ao6,cap6⟩,by omega,rfl,by go_num,HL2.out _ _,HNP.out _ HPk.out.symm,HNR.out _ HRk.out.symm,HJ6⟩
    ·rw[hkp,if_pos rfl]at HRk HPk
     have HDC1:=(show Hid _ from HDC.out (HIP.out hkp) W HJ.out.kept);have HVD1:=(show Hid _ from HVD.out (HIP.out hkp));obtain⟨p,Hp⟩:∃p,Hid (pf k=p):=⟨_,rfl⟩
     obtain⟨r,Hr⟩:∃r,Hid (jr k=r):=⟨_,rfl⟩
     rw[Hp.out]at HDC1 HVD1 HPk;rw[Hr.out]at HVD1 HRk;obtain⟨ps,py,pfl,pl,pc⟩:=p;obtain⟨rl,rv,ry,rff,rn,rc⟩:=r;simp only at HVD1
     go_upto_region 12 with (go_at_call 88;refine Calls.mono HDC1.out ?_;rintro e w1 ⟨hp,he,n1⟩;replace he:e=.returned (.agg #[.slice hp.ao ps.length hp.cap,.int .i64 py,.string pfl,.int .i64 pl,.int .i64 pc]):=he;subst he;obtain⟨⟨p0,p1,p2,p3,p4⟩,⟨f0,f1,f2,f3,f4⟩,pz⟩:=ue (n1.kept.get HBP.out (by simp)))
     have HN1:=(show Hid _ from n1);have B1:=ah (ah (ah (ah (ah (n1.kept.get HBP.out (by simp)) 0 (.slice hp.ao ps.length hp.cap)) 1 (.int .i64 py)) 2 (.string pfl)) 3 (.int .i64 pl)) 4 (.int .i64 pc);obtain⟨X1,HX1⟩:∃X1,Hid (((((w1.setCell ⟨wr.heap.size,0,none⟩ (.slice hp.ao ps.length hp.cap)).setCell ⟨wr.heap.size,1,none⟩ (.int .i64 py)).setCell ⟨wr.heap.size,2,none⟩ (.string pfl)).setCell ⟨wr.heap.size,3,none⟩ (.int .i64 pl)).setCell ⟨wr.heap.size,4,none⟩ (.int .i64 pc)=X1):=⟨_,rfl⟩
     have HKX:Hid (ab [wr.heap.size] w1 X1):=by show ab _ _ _;rw[<-HX1.out];exact(((((ab.refl _ _).setCell (Or.inl (by simp)) _).setCell (Or.inl (by simp)) _).setCell (Or.inl (by simp)) _).setCell (Or.inl (by simp)) _).setCell (Or.inl (by simp)) _
     have HBP1:Hid (X1.heap[wr.heap.size]?=some (.cells #[.slice hp.ao ps.length hp.cap,.int .i64 py,.string pfl,.int .i64 pl,.int .i64 pc] 122 (0,0))):=by show _=_;rw[<-HX1.out];exact B1
     have HK1:Hid (ab [] wr X1):=by
      have k:=HKW.out.trans n1.kept
      exact⟨HKX.out.os.trans k.os,HKX.out.tape.trans k.tape,HKX.out.output.trans k.output,Nat.le_trans k.size HKX.out.size,fun q hq _=>by
       have:=k.size;rw[HKX.out.block q (by omega) (by simp;omega),k.block q hq (by simp)]⟩
     have HJ1:=(show Hid _ from HJ0.out.still HK1.out);have HBR1:Hid (X1.heap[wr.heap.size+1]?=some (.cells #[.string ⟨#[]⟩,.int .i64 0,.int .i64 0,.string ⟨#[]⟩,.int .i64 0,.int .i64 0] 38 (0,0))):=HKX.out.get (n1.kept.get HBR.out (by simp)) (by simp);have HFAR:Hid (∀g,hp.ao=some ⟨g,0,none⟩->W.heap.size<=g/\g<w1.heap.size):=fun g e=>⟨n1.far g (wQ e),n1.own.lt (wQ e)⟩
     have HWS:Hid (wr.heap.size+1<W.heap.size):=ae HBR.out;have HXS1:Hid (cG X1 hp.ao 6 j5 ps):=(n1.own.srcG Ia).keptS HKX.out (fun g e hq=>by have:=HFAR.out g e;have:=HWS.out;simp at hq;omega)
     have HXF:Hid (Fr w h1 h2 (⟨ps,py,pfl,pl,pc⟩,hp)):=fun g e=>by
      have h:=HFAR.out g e;have h':=HWS.out;have h'':=HBL.out.2.2.2;exact⟨by omega,fun hq=>by have:=HBL.out.1 g hq;omega,fun hq=>by have:=HBL.out.2.1 g hq;omega⟩
     clear n1 B1 p0 p1 p2 p3 p4 f0 f1 f2 f3 f4 pz v2 vz hgs s0 hbz q3;rw[HX1.out];obtain⟨⟨p0,p1,p2,p3,p4⟩,-,pz⟩:=ue HBP1.out;obtain⟨v2,vz⟩:=HV2.out X1 _ _ _ _ HJ1.out;have HRG:Hid (∀w2,ab [] X1 w2->(w2.cell? ⟨wr.heap.size+1,0,none⟩=some (.string ⟨#[]⟩)/\w2.cell? ⟨wr.heap.size+1,1,none⟩=some (.int .i64 0)/\w2.cell? ⟨wr.heap.size+1,2,none⟩=some (.int .i64 0)/\w2.cell? ⟨wr.heap.size+1,3,none⟩=some (.string ⟨#[]⟩)/\w2.cell? ⟨wr.heap.size+1,4,none⟩=some (.int .i64 0)/\w2.cell? ⟨wr.heap.size+1,5,none⟩=some (.int .i64 0))/\(w2.frozen? ⟨wr.heap.size+1,0,none⟩=false/\w2.frozen? ⟨wr.heap.size+1,1,none⟩=false/\w2.frozen? ⟨wr.heap.size+1,2,none⟩=false/\w2.frozen? ⟨wr.heap.size+1,3,none⟩=false/\w2.frozen? ⟨wr.heap.size+1,4,none⟩=false/\w2.frozen? ⟨wr.heap.size+1,5,none⟩=false)/\wr.heap.size+1<w2.heap.size):=fun w2 k2=>qn (k2.get HBR1.out (by simp))
     go_region_with (go_at_call 89;refine(HVD1.out hp _ (by exact HJ1.out.kept.drew) (by exact HXS1.out.keptS (ab.refl [] X1).drew (by simp))).mono ?_;rintro e w2 ⟨he,k2⟩;replace he:e=.returned (.agg #[.string rl,.int .i64 rv,.int .i64 ry,.string rff,.int .i64 rn,.int .i64 rc]):=he;subst he;replace k2:=((ab.refl [] X1).drew).trans k2;obtain⟨⟨r0,r1,r2,r3,r4,r5⟩,⟨t0,t1,t2,t3,t4,t5⟩,rz⟩:=HRG.out w2 k2)
     all_goals
      have B2:=ah (ah (ah (ah (ah (ah (k2.get HBR1.out (by simp)) 0 (.string rl)) 1 (.int .i64 rv)) 2 (.int .i64 ry)) 3 (.string rff)) 4 (.int .i64 rn)) 5 (.int .i64 rc);obtain⟨X2,HX2⟩:∃X2,Hid ((((((w2.setCell ⟨wr.heap.size+1,0,none⟩ (.string rl)).setCell ⟨wr.heap.size+1,1,none⟩ (.int .i64 rv)).setCell ⟨wr.heap.size+1,2,none⟩ (.int .i64 ry)).setCell ⟨wr.heap.size+1,3,none⟩ (.string rff)).setCell ⟨wr.heap.size+1,4,none⟩ (.int .i64 rn)).setCell ⟨wr.heap.size+1,5,none⟩ (.int .i64 rc)=X2):=⟨_,rfl⟩
      have HKY:Hid (ab [wr.heap.size+1] X1 X2):=by show ab _ _ _;rw[<-HX2.out];exact((((((k2.mono (by simp)).setCell (Or.inl (by simp)) _).setCell (Or.inl (by simp)) _).setCell (Or.inl (by simp)) _).setCell (Or.inl (by simp)) _).setCell (Or.inl (by simp)) _).setCell (Or.inl (by simp)) _
      have HBR2:Hid (X2.heap[wr.heap.size+1]?=some (.cells #[.string rl,.int .i64 rv,.int .i64 ry,.string rff,.int .i64 rn,.int .i64 rc] 38 (0,0))):=by show _=_;rw[<-HX2.out];exact B2
      have HBP2:=(show Hid _ from HKY.out.get HBP1.out (by simp))
      have HK2:Hid (ab [] wr X2):=⟨HKY.out.os.trans HK1.out.os,HKY.out.tape.trans HK1.out.tape,HKY.out.output.trans HK1.out.output,Nat.le_trans HK1.out.size HKY.out.size,fun q hq _=>by
       have:=HK1.out.size;rw[HKY.out.block q (by omega) (by simp;omega),HK1.out.block q hq (by simp)]⟩
      have HJ2:=(show Hid _ from HJ0.out.still HK2.out);have HXS2:Hid (cG X2 hp.ao 6 j5 ps):=HXS1.out.keptS HKY.out (fun g e hq=>by have:=HFAR.out g e;have:=HWS.out;simp at hq;omega);have HXL:Hid (∀g,hp.ao=some ⟨g,0,none⟩->g<X2.heap.size):=fun g e=>by have:=(HFAR.out g e).2;have:=HKX.out.size;have:=HKY.out.size;omega
      clear k2 B2 r0 r1 r2 r3 r4 r5 t0 t1 t2 t3 t4 t5 rz p0 p1 p2 p3 p4 pz v2 vz
      go_upto_region 13 with fail
      rw[HX2.out];obtain⟨⟨p0,p1,p2,p3,p4⟩,-,pz⟩:=ue HBP2.out;have v3:X2.cell? ⟨v,3,none⟩=some (.slice h1.ao PS.length h1.cap):=by rw[aa HJ2.out.d];rfl
      have vz3:=ae HJ2.out.d;have hOw:=HJ2.out.o1;have s3p:Hid (∀u∈([.slice hp.ao ps.length hp.cap,.int .i64 py,.string pfl,.int .i64 pl,.int .i64 pc]:List Value),u.oneCell'=true):=Bj (⟨ps,py,pfl,pl,pc⟩,hp)
      go_region_law (refine bD X2 rfl (.tmp 77) (.tmp 79) 83 rfl iP (.agg #[.slice none 0 0,.int .i64 0,.string ⟨#[]⟩,.int .i64 0,.int .i64 0]) 64 h1 (fj PS) [.slice hp.ao ps.length hp.cap,.int .i64 py,.string pfl,.int .i64 pl,.int .i64 pc] Tryz.underlying83 hiP hzP0 hzP1 hzP2 rfl (show 0<5 by omega) (by rw[HPn.out];simp[Act.eval]) hOw s5.out (by omega) (by simp[Act.eval]) rfl s3p.out ?_;intro ao5 cap5 w5 hw5 hg5)
      all_goals
       rw[show([.slice hp.ao ps.length hp.cap,.int .i64 py,.string pfl,.int .i64 pl,.int .i64 pc]:List Value)=Jr (⟨ps,py,pfl,pl,pc⟩,hp) from rfl,nR]at hw5;have HJ5:Hid (uU w (w5.setCell ⟨v,3,none⟩ (.slice ao5 ((fj PS).n+1) cap5)) v b x0 x1 (PS++[(⟨ps,py,pfl,pl,pc⟩,hp)]) ⟨ao5,cap5⟩ RS h2):=HJ2.out.addP (⟨ps,py,pfl,pl,pc⟩,hp) HXS2.out HXF.out HXL.out hg5 hw5 ((fj PS).n+1) rfl;obtain⟨X5,HX5⟩:∃X5,Hid (w5.setCell ⟨v,3,none⟩ (.slice ao5 ((fj PS).n+1) cap5)=X5):=⟨_,rfl⟩
       have d5:=hg5.kept.get HJ2.out.d (fun hq=>by have:=HJ2.out.f1 _ (aK hq);have:=HJ2.out.lt;omega);have c5:w5.cell? ⟨v,3,none⟩=some (.slice h1.ao PS.length h1.cap):=by rw[aa d5];rfl
       have e5:=ak d5 3;have z5:=ae d5
       have HBR5:Hid (X5.heap[wr.heap.size+1]?=some (.cells #[.string rl,.int .i64 rv,.int .i64 ry,.string rff,.int .i64 rn,.int .i64 rc] 38 (0,0))):=by
        show _=_
        rw[<-HX5.out];exact((ab.refl [v] _).setCell (Or.inl (by simp)) _).get (hg5.kept.get HBR2.out (fun hq=>by have:=HBL.out.1 _ (aK hq);omega)) (by have:=HBL.out.2.2.1;simp;omega)
       rw[HX5.out]at HJ5;clear v3 vz3 p0 p1 p2 p3 p4 pz hOw hw5 hg5 d5
       go_upto_region 15 with fail
       rw[HX5.out];clear c5 e5 z5;obtain⟨⟨r0,r1,r2,r3,r4,r5⟩,-,rz⟩:=qn HBR5.out;have v4:X5.cell? ⟨v,4,none⟩=some (.slice h2.ao RS.length h2.cap):=by rw[aa HJ5.out.d];rfl
       have vz5:=ae HJ5.out.d;have hOr:=HJ5.out.o2;have s3r:Hid (∀u∈([.string rl,.int .i64 rv,.int .i64 ry,.string rff,.int .i64 rn,.int .i64 rc]:List Value),u.oneCell'=true):=Bu ⟨rl,rv,ry,rff,rn,rc⟩
       go_region_law (refine bD X5 rfl (.tmp 89) (.tmp 91) 54 rfl iR (.agg #[.string ⟨#[]⟩,.int .i64 0,.int .i64 0,.string ⟨#[]⟩,.int .i64 0,.int .i64 0]) 64 h2 (iI RS) [.string rl,.int .i64 rv,.int .i64 ry,.string rff,.int .i64 rn,.int .i64 rc] Tryz.underlying54 hiR hzR0 hzR1 hzR2 rfl (show 0<6 by omega) (by rw[HRn.out];simp[Act.eval]) hOr s6.out (by omega) (by simp[Act.eval]) rfl s3r.out ?_;intro ao6 cap6 w6 hw6 hg6;have d6:=hg6.kept.get HJ5.out.d (fun hq=>by have:=HJ5.out.f2 _ (aK hq);have:=HJ5.out.lt;omega);have f6:=ak d6 4;have c6:w6.cell? ⟨v,4,none⟩=some (.slice h2.ao RS.length h2.cap):=(by rw[aa d6];rfl);have z6:=ae d6)
       all_goals
        rw[show([.string rl,.int .i64 rv,.int .i64 ry,.string rff,.int .i64 rn,.int .i64 rc]:List Value)=mT ⟨rl,rv,ry,rff,rn,rc⟩ from rfl,pv]at hw6;have HJ6:=(show Hid _ from HJ5.out.addR ⟨rl,rv,ry,rff,rn,rc⟩ hg6 hw6 ((iI RS).n+1) rfl);clear hw6 hg6 d6 f6 c6 z6 r0 r1 r2 r3 r4 r5 rz v4 vz5 hOr;go_wp2
        go_roundg (S.length-(k+1))
        case measure=>omega
        case rel=>exact⟨k+1,PS++[(⟨ps,py,pfl,pl,pc⟩,hp)],RS++[⟨rl,rv,ry,rff,rn,rc⟩],⟨ao5,cap5⟩,⟨ao6,cap6⟩,by omega,rfl,by go_num,HL2.out _ _,HNP.out _ HPk.out.symm,HNR.out _ HRk.out.symm,HJ6⟩
   ·rw[hka,if_pos rfl]at HRk
    have hkp:=CJ _ hka;rw[hkp,if_neg (by simp)]at HPk;have HLB1:=(show Hid _ from HLB.out W HJ.out.kept)
    go_upto_region 9 with (go_at_call 87;refine Calls.mono HLB1.out ?_;rintro e w1 ⟨rfl,k1⟩;obtain⟨⟨r0,r1,r2,r3,r4,r5⟩,⟨t0,t1,t2,t3,t4,t5⟩,rz⟩:=qn (k1.get HBR.out (by simp)))
    have B1:=ah (k1.get HBR.out (by simp)) 0 (.string lb);have B2:=ah B1 1 (.int .i64 1);obtain⟨X1,HX1⟩:∃X1,Hid (w1.setCell ⟨wr.heap.size+1,0,none⟩ (.string lb)=X1):=⟨_,rfl⟩
    rw[HX1.out]at B1 B2;obtain⟨X2,HX2⟩:∃X2,Hid (X1.setCell ⟨wr.heap.size+1,1,none⟩ (.int .i64 1)=X2):=⟨_,rfl⟩
    have HKY:Hid (ab [wr.heap.size+1] W X2):=by show ab _ _ _;rw[<-HX2.out,<-HX1.out];exact((k1.mono (by simp)).setCell (Or.inl (by simp)) _).setCell (Or.inl (by simp)) _
    have HBR2:Hid (X2.heap[wr.heap.size+1]?=some (.cells #[.string lb,.int .i64 1,.int .i64 0,.string ⟨#[]⟩,.int .i64 0,.int .i64 0] 38 (0,0))):=by show _=_;rw[<-HX2.out];exact B2
    have HBP2:=(show Hid _ from HKY.out.get HBP.out (by simp))
    have HK2:Hid (ab [] wr X2):=⟨HKY.out.os.trans HKW.out.os,HKY.out.tape.trans HKW.out.tape,HKY.out.output.trans HKW.out.output,Nat.le_trans HKW.out.size HKY.out.size,fun q hq _=>by
     have:=HKW.out.size;rw[HKY.out.block q (by omega) (by simp;omega),HKW.out.block q hq (by simp)]⟩
    have HJ2:=(show Hid _ from HJ0.out.still HK2.out);have HXS2:Hid (cG X2 (none:Option Addr) 6 j5 ([]:List cQ)):=by intro j x hx;cases hx
    have HXL2:Hid (∀g,(none:Option Addr)=some ⟨g,0,none⟩->g<X2.heap.size):=by intro g e;cases e
    rw[HX1.out];clear r0 r1 r2 r3 r4 r5 t0 t1 t2 t3 t4 t5 rz k1 v2 vz hgs s0 hbz q3;have r1:X1.cell? ⟨wr.heap.size+1,1,none⟩=some (.int .i64 0):=by rw[aa B1];rfl
    have t1:=ak B1 1;have rz:=ae B1;clear B1 B2
    go_upto_region 10 with fail
    rw[HX2.out];clear r1 t1 rz;obtain⟨v2,vz⟩:=HV2.out X2 _ _ _ _ HJ2.out;obtain⟨gs2,es2,hgs,s0,hbz,q3⟩:=HSC.out X2 HJ2.out.kept v2 vz
    cases es2
    go_upto_region 13 with fail
    clear v2 vz hgs s0 hbz q3;obtain⟨⟨p0,p1,p2,p3,p4⟩,-,pz⟩:=ue HBP2.out;have v3:X2.cell? ⟨v,3,none⟩=some (.slice h1.ao PS.length h1.cap):=by rw[aa HJ2.out.d];rfl
    have vz3:=ae HJ2.out.d;have hOw:=HJ2.out.o1;have s3p:Hid (∀u∈([.slice none 0 0,.int .i64 0,.string ⟨#[]⟩,.int .i64 0,.int .i64 0]:List Value),u.oneCell'=true):=Bj (Eq,⟨none,0⟩)
    go_region_law (refine bD X2 rfl (.tmp 77) (.tmp 79) 83 rfl iP (.agg #[.slice none 0 0,.int .i64 0,.string ⟨#[]⟩,.int .i64 0,.int .i64 0]) 64 h1 (fj PS) [.slice none 0 0,.int .i64 0,.string ⟨#[]⟩,.int .i64 0,.int .i64 0] Tryz.underlying83 hiP hzP0 hzP1 hzP2 rfl (show 0<5 by omega) (by rw[HPn.out];simp[Act.eval]) hOw s5.out (by omega) (by simp[Act.eval]) rfl s3p.out ?_;intro ao5 cap5 w5 hw5 hg5)
    all_goals
     rw[show([.slice none 0 0,.int .i64 0,.string ⟨#[]⟩,.int .i64 0,.int .i64 0]:List Value)=Jr (Eq,⟨none,0⟩) from rfl,nR]at hw5;have HJ5:Hid (uU w (w5.setCell ⟨v,3,none⟩ (.slice ao5 ((fj PS).n+1) cap5)) v b x0 x1 (PS++[(Eq,⟨none,0⟩)]) ⟨ao5,cap5⟩ RS h2):=HJ2.out.addP (Eq,⟨none,0⟩) HXS2.out HXF0.out HXL2.out hg5 hw5 ((fj PS).n+1) rfl;obtain⟨X5,HX5⟩:∃X5,Hid (w5.setCell ⟨v,3,none⟩ (.slice ao5 ((fj PS).n+1) cap5)=X5):=⟨_,rfl⟩
     have d5:=hg5.kept.get HJ2.out.d (fun hq=>by have:=HJ2.out.f1 _ (aK hq);have:=HJ2.out.lt;omega);have c5:w5.cell? ⟨v,3,none⟩=some (.slice h1.ao PS.length h1.cap):=by rw[aa d5];rfl
     have e5:=ak d5 3;have z5:=ae d5
     have HBR5:Hid (X5.heap[wr.heap.size+1]?=some (.cells #[.string lb,.int .i64 1,.int .i64 0,.string ⟨#[]⟩,.int .i64 0,.int .i64 0] 38 (0,0))):=by
      show _=_
      rw[<-HX5.out];exact((ab.refl [v] _).setCell (Or.inl (by simp)) _).get (hg5.kept.get HBR2.out (fun hq=>by have:=HBL.out.1 _ (aK hq);omega)) (by have:=HBL.out.2.2.1;simp;omega)
     rw[HX5.out]at HJ5;clear v3 vz3 p0 p1 p2 p3 p4 pz hOw hw5 hg5 d5
     go_upto_region 15 with fail
     rw[HX5.out];clear c5 e5 z5;obtain⟨⟨r0,r1,r2,r3,r4,r5⟩,-,rz⟩:=qn HBR5.out;have v4:X5.cell? ⟨v,4,none⟩=some (.slice h2.ao RS.length h2.cap):=by rw[aa HJ5.out.d];rfl
     have vz5:=ae HJ5.out.d;have hOr:=HJ5.out.o2;have s3r:Hid (∀u∈([.string lb,.int .i64 1,.int .i64 0,.string ⟨#[]⟩,.int .i64 0,.int .i64 0]:List Value),u.oneCell'=true):=Bu ⟨lb,1,0,⟨#[]⟩,0,0⟩
     go_region_law (refine bD X5 rfl (.tmp 89) (.tmp 91) 54 rfl iR (.agg #[.string ⟨#[]⟩,.int .i64 0,.int .i64 0,.string ⟨#[]⟩,.int .i64 0,.int .i64 0]) 64 h2 (iI RS) [.string lb,.int .i64 1,.int .i64 0,.string ⟨#[]⟩,.int .i64 0,.int .i64 0] Tryz.underlying54 hiR hzR0 hzR1 hzR2 rfl (show 0<6 by omega) (by rw[HRn.out];simp[Act.eval]) hOr s6.out (by omega) (by simp[Act.eval]) rfl s3r.out ?_;intro ao6 cap6 w6 hw6 hg6;have d6:=hg6.kept.get HJ5.out.d (fun hq=>by have:=HJ5.out.f2 _ (aK hq);have:=HJ5.out.lt;omega);have f6:=ak d6 4;have c6:w6.cell? ⟨v,4,none⟩=some (.slice h2.ao RS.length h2.cap):=(by rw[aa d6];rfl);have z6:=ae d6)
     all_goals
      rw[show([.string lb,.int .i64 1,.int .i64 0,.string ⟨#[]⟩,.int .i64 0,.int .i64 0]:List Value)=mT ⟨lb,1,0,⟨#[]⟩,0,0⟩ from rfl,pv]at hw6;have HJ6:=(show Hid _ from HJ5.out.addR ⟨lb,1,0,⟨#[]⟩,0,0⟩ hg6 hw6 ((iI RS).n+1) rfl);clear hw6 hg6 d6 f6 c6 z6 r0 r1 r2 r3 r4 r5 rz v4 vz5 hOr;go_wp2
      go_roundg (S.length-(k+1))
      case measure=>omega
      case rel=>exact⟨k+1,PS++[(Eq,⟨none,0⟩)],RS++[⟨lb,1,0,⟨#[]⟩,0,0⟩],⟨ao5,cap5⟩,⟨ao6,cap6⟩,by omega,rfl,by go_num,HL2.out _ _,HNP.out _ HPk.out.symm,HNR.out _ HRk.out.symm,HJ6⟩
  ·have e:k=S.length:=by omega
   subst e
   have HPA:Hid (∀t,t<S.length->(kD PS t).1=zj S pf t):=fun t ht=>by
    have h1:=xv PS t (by rw[HL.out.1];exact ht);have h2:(PS.map (·.1))[t]?=some (zj S pf t):=by rw[HPS.out,List.getElem?_map,List.getElem?_range ht];rfl
    rw[List.getElem?_map,h1]at h2;exact Option.some.inj h2
   have HRC:Hid (∀a,a<S.length->∀t,t<=a->(kD PS t).1.st.length<=100000000/\∀i,i<(kD PS t).1.st.length->(bG (kD PS t).1.st i).ref<=(a:Int)):=fun a ha t ht=>by
    rw[HPA.out t (by omega)];unfold zj
    cases hp:vf S t
    ·rw[if_neg (by simp)]
     exact⟨Nat.zero_le _,fun i hi=>by cases hi⟩
    ·rw[if_pos rfl]
     obtain⟨q1,q2⟩:=HRF.out t (by omega) hp;exact⟨q1,fun i hi=>by have:=q2 i hi;omega⟩
   have HLP:=(show Hid _ from HL.out.1);have HLR:=(show Hid _ from HL.out.2);have HF0:Hid (qB S PS RS RS 0):=⟨rfl,fun _ _=>rfl,fun a h=>absurd h (Nat.not_lt_zero a),fun a h=>absurd h (Nat.not_lt_zero a)⟩;have v2:wr.cell? ⟨v,2,none⟩=some (.pointer (some ⟨b,0,none⟩)):=by rw[aa HJ0.out.d];rfl
   have vz:=ae HJ0.out.d;obtain⟨-,s0,hbz⟩:=(HD.out wr HJ0.out.kept).cells;have hnn:¬(S.length:Int)<(S.length:Int):=by omega
   clear HDEC HVER HRF JD0 HL hlt hk;go_wp2;clear v2 vz s0 hbz
   go_loopg [6] RS.length (fun g iv wr=>∃(k:Nat) (RS':List jL),k<=RS.length/\g=RS.length-k/\iv=.int .i64 k/\Hid (qB S PS RS RS' k)/\Hid (uU w wr v b x0 x1 PS h1 RS' h2))
   case atStart=>exact⟨0,RS,by omega,rfl,rfl,HF0,HJ0⟩
   case round =>
    clear HJ0 HF0;obtain⟨k,RS',hk,hg2,rfl,HF,HJ⟩:=hrel;have HLL:=(show Hid _ from HF.out.len);have vz:=ae HJ.out.d
    by_cases hlt:k<RS'.length
    ·have hkR:k<RS.length:=by rw[<-HLL.out];exact hlt
     have hkS:k<S.length:=by rw[<-HLR.out];exact hkR
     have hkP:k<PS.length:=by rw[HLP.out];exact hkS
     obtain⟨g2,e2,hgz,cc⟩:=HJ.out.jds.r k _ (xD RS' k hlt);have HE2:=(show Hid _ from e2);have v4:wr.cell? ⟨v,4,none⟩=some (.slice (some ⟨g2,0,none⟩) RS'.length h2.cap):=by rw[aa HJ.out.d,<-e2];rfl
     have c1:wr.cell? ⟨g2,k*6+1,none⟩=some (.int .i64 (gN RS' k).verdict):=cc 1 _ rfl;clear e2 cc;have HOL:Hid (gN RS k=gN RS' k):=(HF.out.old k (Nat.le_refl _)).symm;have HRE:=(show Hid _ from zr v b k T aoT cT S aoS cS x0 x1 PS h1.ao h1.cap RS' h2.ao h2.cap wr (HD.out wr HJ.out.kept) HJ.out.jds hkP hlt hkS (by omega) (fun j hj=>HA.out j (by omega)) (HRC.out k hkS));have hki:(k:Int)<(RS'.length:Int):=by omega
     have hk0:(0:Int)<=(k:Int):=by omega
     have HVD:Hid ((gN RS k).verdict=(gN RS' k).verdict):=by show _=_;rw[HOL.out]
     generalize hvd:(gN RS' k).verdict=vd at *;clear hvd
     cases h4:(vd==4)
     ·have HM:=(show Hid _ from HF.out.same (fun q=>by rw[HVD.out]at q;rw[q.1]at h4;cases h4))
      go_wp2
      go_roundg (RS.length-(k+1))
      case measure=>omega
      case rel=>exact⟨k+1,RS',by omega,rfl,by go_num,HM,HJ⟩
     ·have HV4:Hid ((gN RS k).verdict=4):=by show _=_;rw[HVD.out];exact eq_of_beq h4
      go_upto_region 21 with (go_at_call 67;refine Calls.mono HRE.out ?_;rintro e w1 ⟨inn,n1,n2,hin,he,a1,a2⟩;obtain⟨nb,Hnb⟩:∃nb,Hid ((Am T S RS' inn (k+1)).length=nb):=⟨_,rfl⟩;rw[Hnb.out]at he;subst he)
      have HG:=(show Hid _ from II (T:=T) HF.out hin);rw[Hnb.out]at HG;have HJ1:=(show Hid _ from HJ.out.still a1.kept);clear hin a1 a2 v4 c1 vz hgz
      cases nb with
      | zero =>
       have hgz:=HJ1.out.o2.lt (wQ HE2.out);have vz:=ae HJ1.out.d;have v4:w1.cell? ⟨v,4,none⟩=some (.slice (some ⟨g2,0,none⟩) RS'.length h2.cap):=by rw[aa HJ1.out.d,<-HE2.out];rfl
       obtain⟨g3,e3,-,cc⟩:=HJ1.out.jds.r k _ (xD RS' k hlt);have e3:g3=g2:=by have:=e3.symm.trans HE2.out;cases this;rfl
       subst e3;have c1:w1.cell? ⟨g3,k*6+1,none⟩=some (.int .i64 (gN RS' k).verdict):=cc 1 _ rfl;have f1:w1.frozen? ⟨g3,k*6+1,none⟩=false:=GK HJ1.out.o2 HE2.out _;have HM:=(show Hid _ from HF.out.turn hkR HV4.out (HG.out.1 rfl));have HJ2:=(show Hid _ from HJ1.out.put HE2.out k hlt 5);clear cc;go_wp2
       go_roundg (RS.length-(k+1))
       case measure=>omega
       case rel=>exact⟨k+1,_,by omega,rfl,by go_num,HM,HJ2⟩
      | succ nb =>
       have HM:=(show Hid _ from HF.out.same (fun q=>by have:=HG.out.2 q.2;omega));have hnb:(((nb+1:Nat):Int)==0)=false:=by simp;omega
       go_wp2
       go_roundg (RS.length-(k+1))
       case measure=>omega
       case rel=>exact⟨k+1,RS',by omega,rfl,by go_num,HM,HJ1⟩
    ·have ek:k=RS.length:=by have:=HLL.out;omega
     subst ek;have hnl:¬(RS.length:Int)<(RS'.length:Int):=by omega
     have v4:wr.cell? ⟨v,4,none⟩=some (.slice h2.ao RS'.length h2.cap):=by rw[aa HJ.out.d];rfl
     have HF2:Hid (qB S PS ((List.range S.length).map (ET T S jr)) RS' S.length):=by
      have:=HF.out;rw[HLR.out]at this;rw[<-HRS.out];exact this
     go_wp2;go_end0;exact⟨PS,h1,h2,RS',rfl,HPS.out,HF2.out,HJ.out⟩
end Go.Proofs.YtpddjjabfbfifaaGreat
