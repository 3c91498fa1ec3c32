import Derived.Deep.RegionHeld3
import Derived.Test.YtlbhbocbakijbaaGreatG22
namespace Go.Proofs.YtlbhbocbakijbaaGreat
open Go.RowKit
set_option maxHeartbeats 0
def Gy(x:ByteArray):Prop:=Wd x/\x.size<=1024
theorem yA(T:ByteArray)(hT:T.size<=1024):Nm Gy (bC T).2:=rJ _ T (fun k hk h hd=>⟨pE T k hk h hd,jD T k hT⟩) _ 0 _ (Nat.zero_le _) Nm.empty
theorem Nm.szs{d:Db}(h:Nm Gy d):tB d.sts:=by
 intro s hs hk;have hso:=h.sts s hs;have hl:=hso.lab (hso.kind.resolve_left hk);exact⟨by have:=hl.1.2;omega,fun x hx=>by have:=(hso.syms x hx).2;omega⟩
theorem ng(a:ByteArray)(r:List ByteArray)(h:Wd a):F3 (a :: r)=false:=h.notKey 100
theorem o8(r:List ByteArray):F3 (⟨#[36,100]⟩ :: r)=true:=by
 show((⟨#[36,100]⟩:ByteArray).toList == [36,100])=true
 rw[ByteArray.toList_eq];rfl
theorem ia(a:ByteArray)(k:Int)(r:List ByteArray)(c:UInt8):gd (a :: eO k :: r) c=((eO k).toList == [36,c]):=rfl
theorem wo:eO 2=⟨#[36,102]⟩:=rfl
theorem pg:eO 3=⟨#[36,101]⟩:=rfl
theorem ph:eO 4=⟨#[36,97]⟩:=rfl
theorem pk:eO 5=⟨#[36,112]⟩:=rfl
theorem tu(c:UInt8):(⟨#[36,c]⟩:ByteArray).toList=[36,c]:=by rw[ByteArray.toList_eq]
structure xL(s:St):Prop where
 lab:Wd s.label
 syms:∀x∈s.symbols,Wd x
 pos:0<s.symbols.length
 two:s.kind=2->s.symbols.length=2
 sz:(dK s).size<=1073741824
theorem Nm.stw{d:Db}(h:Nm Gy d)(hl:∀s∈d.sts,s.symbols.length<=10000)(s:St)(hs:s∈d.sts)(hk:s.kind≠1):xL s:=by
 have hso:=h.sts s hs;have hk2:=hso.kind.resolve_left hk;obtain⟨c,r,hc,-⟩:=hso.code hk2;refine⟨(hso.lab hk2).1.1,fun x hx=>(hso.syms x hx).1,by rw[hc];simp,hso.two,?_⟩;have:=kl s (h.szs s hs hk) s.symbols.length (Nat.le_refl _);have hlen:=hl s hs;unfold dK;omega
theorem xL.split{s:St}(h:xL s):aN (dK s)=s.label :: eO s.kind :: s.symbols:=xj s h.lab.noBl (fun x hx=>(h.syms x hx).noBl)
theorem lO(p:Pr)(h1:hZ p.1)(h2:hZ p.2):aN (cJ p)=[⟨#[36,100]⟩,p.1,p.2]:=by
 have e:cJ p=⟨#[36,100]⟩++(⟨#[32]⟩++p.1)++(⟨#[32]⟩++p.2):=by
  unfold cJ;have e0:(⟨#[36,100,32]⟩:ByteArray)=⟨#[36,100]⟩++⟨#[32]⟩:=by decide +kernel
  rw[e0];simp only[ByteArray.append_assoc]
 rw[e,jJ _ _ h2,jJ _ _ h1,rP]
 ·rfl
 ·intro i hi
  have h2:i<2:=hi
  match i,h2 with
  | 0,_=>decide +kernel
  | 1,_=>decide +kernel
theorem um{s:St}(h:xL s)(hk:s.kind=2∨s.kind=3)(lab:ByteArray)(last:Bool):oA lab last (dK s):=by
 have hs:=h.split;refine⟨h.sz,by rw[hs];have:=h.pos;simp;omega,Or.inr ⟨by rw[hs];exact ng _ _ h.lab,?_⟩⟩;rw[hs];simp only[ia]
 rcases hk with hk | hk
 ·left
  rw[hk,wo,tu];exact⟨rfl,by have:=h.two hk;simp[this]⟩
 ·right
  rw[hk,pg,tu];exact⟨by decide,Or.inl rfl⟩
theorem un{s:St}(h:xL s)(hk:jt s.kind=true)(lab:ByteArray)(hl:s.label.toList=lab.toList):oA lab true (dK s):=by
 have hs:=h.split;refine⟨h.sz,by rw[hs];have:=h.pos;simp;omega,Or.inr ⟨by rw[hs];exact ng _ _ h.lab,Or.inr ?_⟩⟩;rw[hs];simp only[ia];have hk':s.kind=4∨s.kind=5:=by unfold jt at hk;simpa using hk
 rcases hk' with hk' | hk' <;> rw[hk']
 ·rw[ph,tu]
  exact⟨by decide,Or.inr ⟨by decide,Or.inl rfl,by show(s.label.toList==lab.toList)=true;rw[hl];simp,by simp⟩⟩
 ·rw[pk,tu]
  exact⟨by decide,Or.inr ⟨by decide,Or.inr rfl,by show(s.label.toList==lab.toList)=true;rw[hl];simp,by simp⟩⟩
theorem sF(p:Pr)(h1:hZ p.1)(h2:hZ p.2)(hz:p.1.size<=100000/\p.2.size<=100000)(lab:ByteArray)(last:Bool):oA lab last (cJ p):=by
 have hs:=lO p h1 h2;refine⟨?_,by rw[hs];simp,Or.inl (by rw[hs];exact o8 _)⟩;unfold cJ;simp only[ByteArray.size_append,DL,kO];omega
structure nZ(l:List St)(a:Nat):Prop where
 ha:a<l.length
 isa:jt (l[a]'ha).kind=true
 own:xL (l[a]'ha)
 hyp:∀n∈aq l a,∃h:n<l.length,xL l[n]/\(l[n].kind=2∨l[n].kind=3)
 prs:∀p∈br l a,(hZ p.1/\hZ p.2)/\p.1.size<=100000/\p.2.size<=100000
theorem uz:hZ ⟨#[]⟩:=fun i hi=>absurd (show i<0 from hi) (Nat.not_lt_zero i)
theorem xX(vs:List ByteArray)(i:Nat)(h:∀x∈vs,hZ x):hZ (gD vs i):=by
 unfold gD;rw[List.getD_eq_getElem?_getD]
 cases e:vs[i]? with
 | none=>exact uz
 | some x=>exact h x (List.mem_of_getElem? e)
theorem nZ.of{d:Db}(h:Nm Gy d)(ok:db d.sts)(a:Nat)(ha:a<d.sts.length)(hk:jt d.sts[a].kind=true):nZ d.sts a:=by
 have hl:∀s∈d.sts,s.symbols.length<=10000:=fun s hs=>by obtain⟨i,hi,rfl⟩:=List.getElem_of_mem hs;exact ok.syms i hi
 have hyp:∀n∈aq d.sts a,∃h:n<d.sts.length,xL d.sts[n]/\(d.sts[n].kind=2∨d.sts[n].kind=3):=fun n hn=>by
  have hnl:=mu d.sts a n hn;have hkn:=pn d.sts a n hn hnl;exact⟨hnl,h.stw hl _ (List.getElem_mem hnl) (by omega),hkn⟩
 refine⟨ha,hk,h.stw hl _ (List.getElem_mem ha) (by intro e;rw[e]at hk;revert hk;decide),hyp,fun p hp=>⟨?_,pK d.sts a h.szs p hp⟩⟩
 have hv:∀x∈dS d.sts (aq d.sts a),hZ x:=by
  intro x hx;unfold dS at hx;obtain⟨n,hn,he⟩:=List.mem_filterMap.1 hx;obtain⟨hnl,hst,-⟩:=hyp n hn;unfold jb at he;rw[List.getElem?_eq_getElem hnl]at he;simp only at he
  split at he
  ·cases he
   unfold al
   split
   ·next hc =>
    refine(hst.syms _ ?_).noBl;rw[List.getD_eq_getElem?_getD,List.getElem?_eq_getElem (show 1<d.sts[n].symbols.length by omega)];exact List.getElem_mem _
   ·exact uz
  ·cases he
 unfold br sQ lQ at hp;obtain⟨i,-,hp⟩:=List.mem_flatMap.1 hp;unfold ij at hp;obtain⟨j,-,rfl⟩:=List.mem_map.1 hp;exact⟨xX _ _ hv,xX _ _ hv⟩
theorem vX{L:List ByteArray}{k:Nat}{x:ByteArray}(h:L[k]?=some x)(hk:k<L.length):L[k]=x:=by
 rw[List.getElem?_eq_getElem hk]at h;exact Option.some.inj h
theorem Cg{l:List St}{a:Nat}(h:nZ l a)(lab:ByteArray)(hl:(l[a]'h.ha).label.toList=lab.toList)(k:Nat)(hk:k<(aM l a).length):oA lab (decide (k+1=(aM l a).length)) (aM l a)[k]:=by
 have hlen:=ni l a
 by_cases h1:k<(aq l a).length
 ·obtain⟨hq,hst,hkn⟩:=h.hyp _ (List.getElem_mem h1)
  rw[vX (ru l a k h1 hq) hk];exact um hst hkn _ _
 ·by_cases h2:k<(aq l a).length+(br l a).length
  ·obtain⟨j,rfl⟩:∃j,k=(aq l a).length+j:=⟨k-(aq l a).length,by omega⟩
   rw[vX (pu l a j (by omega)) hk];obtain⟨⟨b1,b2⟩,b3⟩:=h.prs _ (List.getElem_mem (show j<(br l a).length by omega));exact sF _ b1 b2 b3 _ _
  ·have e:k=(aq l a).length+(br l a).length:=by omega
   subst e;rw[vX (pq l a h.ha) hk,decide_eq_true (by omega)];exact un h.own h.isa lab hl
def Ej(l:List St)(n:Nat):ByteArray:=match l[n]? with | some s=>s.label | none=>⟨#[]⟩
theorem vd{s:St}(h:xL s)(hk:s.kind=2∨s.kind=3)(f:Fm):(bG f (aN (dK s))).hyps=f.hyps++[s.label]/\(bG f (aN (dK s))).goal=f.goal:=by
 rw[h.split];have hd:=ng s.label (eO s.kind :: s.symbols) h.lab
 rcases hk with hk | hk
 ·have h2:=h.two hk
  have k1:gd (s.label :: eO s.kind :: s.symbols) 102=true:=by rw[ia,hk,wo,tu];rfl
  unfold bG;rw[if_neg (by rw[hd];simp),if_pos ⟨k1,by simp[h2]⟩];exact⟨rfl,rfl⟩
 ·have k1:gd (s.label :: eO s.kind :: s.symbols) 102=false:=by rw[ia,hk,pg,tu];decide
  have k2:gd (s.label :: eO s.kind :: s.symbols) 101=true:=by rw[ia,hk,pg,tu];rfl
  unfold bG;rw[if_neg (by rw[hd];simp),if_neg (by rw[k1];simp),if_pos k2];exact⟨rfl,rfl⟩
theorem rR(p:Pr)(h1:hZ p.1)(h2:hZ p.2)(f:Fm):(bG f (aN (cJ p))).hyps=f.hyps/\(bG f (aN (cJ p))).goal=f.goal:=by
 rw[lO p h1 h2];unfold bG;rw[if_pos (o8 _)];exact⟨rfl,rfl⟩
theorem C4{s:St}(h:xL s)(hk:jt s.kind=true)(f:Fm):(bG f (aN (dK s))).hyps=f.hyps/\(bG f (aN (dK s))).goal=s.symbols:=by
 rw[h.split];have hd:=ng s.label (eO s.kind :: s.symbols) h.lab;have hk':s.kind=4∨s.kind=5:=by unfold jt at hk;simpa using hk
 have k1:gd (s.label :: eO s.kind :: s.symbols) 102=false:=by
  rw[ia]
  rcases hk' with e | e <;> rw[e]
  ·rw[ph,tu];decide
  ·rw[pk,tu];decide
 have k2:gd (s.label :: eO s.kind :: s.symbols) 101=false:=by
  rw[ia]
  rcases hk' with e | e <;> rw[e]
  ·rw[ph,tu];decide
  ·rw[pk,tu];decide
 unfold bG;rw[if_neg (by rw[hd];simp),if_neg (by rw[k1];simp),if_neg (by rw[k2];simp)];exact⟨rfl,rfl⟩
theorem zd(l:List St)(hs:List Nat)(h:∀n∈hs,∃h:n<l.length,xL l[n]/\(l[n].kind=2∨l[n].kind=3))(f:Fm) :
  ((hs.map (dY l)).foldl (fun f x=>bG f (aN x)) f).hyps=f.hyps++hs.map (Ej l)/\((hs.map (dY l)).foldl (fun f x=>bG f (aN x)) f).goal=f.goal:=by
 induction hs generalizing f with
 | nil=>simp
 | cons n hs ih =>
  obtain⟨hn,hst,hk⟩:=h n (by simp);have e1:dY l n=dK l[n]:=by unfold dY;rw[List.getElem?_eq_getElem hn]
  have e2:Ej l n=l[n].label:=by unfold Ej;rw[List.getElem?_eq_getElem hn]
  simp only[List.map_cons,List.foldl_cons];obtain⟨i1,i2⟩:=ih (fun n hn=>h n (List.mem_cons_of_mem _ hn)) (bG f (aN (dY l n)));rw[i1,i2,e1,e2,(vd hst hk f).1,(vd hst hk f).2];simp
theorem vV(ps:List Pr)(h:∀p∈ps,hZ p.1/\hZ p.2)(f:Fm):((ps.map cJ).foldl (fun f x=>bG f (aN x)) f).hyps=f.hyps/\((ps.map cJ).foldl (fun f x=>bG f (aN x)) f).goal=f.goal:=by
 induction ps generalizing f with
 | nil=>simp
 | cons p ps ih =>
  simp only[List.map_cons,List.foldl_cons];obtain⟨i1,i2⟩:=ih (fun n hn=>h n (List.mem_cons_of_mem _ hn)) (bG f (aN (cJ p)));have hp:=h p (by simp);rw[i1,i2,(rR p hp.1 hp.2 f).1,(rR p hp.1 hp.2 f).2];exact⟨rfl,rfl⟩
theorem DZ{l:List St}{a:Nat}(h:nZ l a):(cP (aM l a)).hyps=(aq l a).map (Ej l)/\(cP (aM l a)).goal=(l[a]'h.ha).symbols:=by
 unfold cP fy;rw[List.take_length];unfold aM;rw[List.foldl_append,List.foldl_append];have e1:dY l a=dK (l[a]'h.ha):=by unfold dY;rw[List.getElem?_eq_getElem h.ha]
 simp only[List.foldl_cons,List.foldl_nil,e1];obtain⟨h1,h2⟩:=zd l (aq l a) h.hyp ua;obtain⟨p1,p2⟩:=vV (br l a) (fun p hp=>(h.prs p hp).1) (((aq l a).map (dY l)).foldl (fun f x=>bG f (aN x)) ua);obtain⟨o1,o2⟩:=C4 h.own h.isa (((br l a).map cJ).foldl (fun f x=>bG f (aN x)) (((aq l a).map (dY l)).foldl (fun f x=>bG f (aN x)) ua));rw[o1,o2,p1,h1];exact⟨by simp[ua],rfl⟩
structure dM where
 mod:Nat
 syms:List ByteArray
 weight:List Int
 codes:List ByteArray
 masks:List Int
 lin:List ByteArray
def F0:dM:=⟨0,[],[],[],[],[]⟩
def ii(c:Int)(n:Nat):Nat:=((if c<0 then -(c+1) else c).tmod n).toNat
theorem uG(c:Int)(n:Nat)(h:0<n):ii c n<n:=by
 unfold ii;have h1:0<=(if c<0 then -(c+1) else c):=by split <;> omega
 have h2:=Int.tmod_nonneg (n:Int) h1;have h3:=Int.tmod_lt_of_pos (if c<0 then -(c+1) else c) (show(0:Int)<n by omega);omega
def GC(m:Int)(r:Nat):Bool:=(bits BinOp.and IntKind.i64 (m / 2 ^ r) 1==1)
def bL(n:dM)(t:ByteArray)(r:Nat):Bool:=match aL n.codes t with
 | none=>true
 | some i=>GC (n.masks.getD i 0) r
def kH(n:dM)(t:ByteArray):Bool:=(List.range (n.mod+1)).any (bL n t)
def ik(n:dM):Bool:=n.codes.all (kH n)
def jW(n:dM)(vars:List ByteArray)(vals:List Nat)(x:ByteArray):Nat:=match aL vars x with
 | some v=>vals.getD v 0
 | none=>match aL n.syms x with
  | some c=>ii (n.weight.getD c 0) (n.mod+1)
  | none=>0
def tg(n:dM)(vars:List ByteArray)(vals:List Nat)(e:List ByteArray)(a:Nat):Nat:=e.foldl (fun a x=>(a+jW n vars vals x) % (n.mod+1)) a
def dN(n:dM)(e:List ByteArray)(vars:List ByteArray)(vals:List Nat):Nat:=tg n vars vals (e.drop 1) 0
def si(n:dM)(f:Fm)(vals:List Nat):Bool :=
 if f.ess.all (fun e=>bL n (gD e 0) (dN n e f.vars vals))=true then bL n (gD f.goal 0) (dN n f.goal f.vars vals) else true
def iL(n:dM)(f:Fm):Nat->List Nat->Bool
 | 0,vals=>si n f vals
 | k+1,vals=>(List.range (n.mod+1)).all (fun r=>!(bL n (gD f.types vals.length) r)||iL n f k (vals++[r]))
theorem BU(n:dM)(f:Fm)(k:Nat):∀vals,iL n f k vals=true ↔ ∀more:List Nat,more.length=k->(∀i (h:i<more.length),more[i]<=n.mod/\bL n (gD f.types (vals.length+i)) more[i]=true)->si n f (vals++more)=true:=by
 induction k with
 | zero =>
  intro vals;rw[iL]
  constructor
  ·intro h more hm _
   rw[List.eq_nil_of_length_eq_zero hm,List.append_nil];exact h
  ·intro h
   have:=h [] rfl (fun i hi=>by cases hi);rwa [List.append_nil]at this
 | succ k ih =>
  intro vals;rw[iL,List.all_eq_true]
  constructor
  ·intro h more hm hv
   cases more with
   | nil=>cases hm
   | cons r q =>
    have h0:=hv 0 (by simp);simp only[List.getElem_cons_zero,Nat.add_zero]at h0;have h1:=h r (List.mem_range.2 (by omega));rw[h0.2]at h1;simp only[Bool.not_true,Bool.false_or]at h1
    have h2:=(ih _).1 h1 q (by simpa using hm) (fun i hi=>by
     have:=hv (i+1) (by simpa using hi);rw[List.getElem_cons_succ]at this;rw[List.length_append,List.length_singleton,show vals.length+1+i=vals.length+(i+1) by omega];exact this)
    rwa [List.append_assoc]at h2
  ·intro h r hr
   cases c:bL n (gD f.types vals.length) r with
   | false=>rfl
   | true =>
    simp only[Bool.not_true,Bool.false_or];refine(ih _).2 (fun q hq hv=>?_)
    have:=h (r :: q) (by simp[hq]) (fun i hi=>by
     cases i with
     | zero=>simp only[List.getElem_cons_zero,Nat.add_zero];exact⟨by have:=List.mem_range.1 hr;omega,c⟩
     | succ i =>
      have:=hv i (by simpa using hi);rw[List.length_append,List.length_singleton,show vals.length+1+i=vals.length+(i+1) by omega]at this;rw[List.getElem_cons_succ];exact this)
    rw[List.append_assoc];exact this
def eG(f:Fm)(x y:ByteArray):Bool:=(List.range f.left.length).any (fun i=>((gD f.left i).toList==x.toList&&(gD f.right i).toList==y.toList)||((gD f.left i).toList==y.toList&&(gD f.right i).toList==x.toList))
def BZ(f:Fm)(x:ByteArray):Bool:=(aL f.vars x).isSome
def Cd(f:Fm)(x y:ByteArray):Bool:=!(BZ f x&&BZ f y && !eG f x y)
def di(f:Fm)(e:List ByteArray):Bool:=(List.range e.length).all (fun i=>(List.range i).all (fun j=>decide (j=0)||Cd f (gD e i) (gD e j)))
def ig(e:List ByteArray)(x y:ByteArray):Bool:=(List.range e.length).any (fun i=>(List.range e.length).any (fun j=>!(i==0) && !(j==0) && !(i==j)&&(gD e i).toList==x.toList&&(gD e j).toList==y.toList))
def lp(n:dM)(t:ByteArray):Bool:=(aL n.lin t).isSome
def fI(n:dM)(x y:ByteArray)(two:Bool)(e:List ByteArray):Bool:=lp n (gD e 0)&&(ig e x y||(!two&&(aL (e.drop 1) x).isSome))
def eN(n:dM)(f:Fm)(x y:ByteArray)(two:Bool):Bool:=f.ess.any (fI n x y two)
def ef(n:dM)(f:Fm)(i j:Nat):Bool:=decide (j=0) || !(BZ f (gD f.goal j) && !eG f (gD f.goal i) (gD f.goal j) && !eN n f (gD f.goal i) (gD f.goal j) true)
def pa(n:dM)(f:Fm)(i:Nat):Bool:=match aL f.vars (gD f.goal i) with
 | none=>true
 | some x=>(lp n (gD f.types x)||eN n f (gD f.goal i) (gD f.goal i) false)&&(List.range i).all (ef n f i)
def fO(n:dM)(f:Fm):Bool:=!lp n (gD f.goal 0)||(List.range f.goal.length).all (fun i=>decide (i=0)||pa n f i)
def gg(n:dM)(f:Fm):Bool:=if f.ess.all (fun e=>!lp n (gD e 0)||di f e)=true then(!lp n (gD f.goal 0)||di f f.goal) else true
theorem eC(hd:Hd)(L:List ByteArray)(x:ByteArray)(w:World)(v:bH w hd L)(hl:L.length<=1073741824) :
  Calls Tryz.prog 32 #[.slice hd.ao L.length hd.cap,.string x] w fun e w'=>e=.returned (.int .i64 (bQ (aL L x)))/\w'=w:=by
 obtain⟨AO,HAO⟩:∃AO,Hid (hd.ao=AO):=⟨_,rfl⟩
 rw[HAO.out];go_enter Tryz.func32,Tryz.ntmps32;go_wp2
 go_loopg [5] L.length (fun g i wr=>∃k:Nat,k<=L.length/\g=L.length-k/\i=.int .i64 k/\Hid (∀i,i<k->((L.getD i ⟨#[]⟩).toList==x.toList)=false)/\wr=w)
 case atStart=>exact⟨0,by omega,by omega,rfl,fun i hi=>by omega,rfl⟩
 case round =>
  obtain⟨k,hk,hg,rfl,hall,rfl⟩:=hrel
  by_cases hlt:k<L.length
  ·rcases v with h0 | ⟨g,off,cur,t,e1,e2,e3,e4,e5⟩
   ·rw[h0]at hlt;simp at hlt
   ·have c2:wr.cell? ⟨g,off+k,none⟩=some (.string L[k]):=by rw[ab e2];exact e3 k L[k] (List.getElem?_eq_getElem hlt)
    obtain rfl:AO=some ⟨g,off,none⟩:=HAO.out.symm.trans e1;have HG:=(show Hid _ from jy L k hlt);have hgw:=ac e2;generalize L[k]=y at *;clear e2 e3
    cases hb:(y.toList==x.toList)
    ·have HN:Hid (∀i,i<k+1->((L.getD i ⟨#[]⟩).toList==x.toList)=false):=by
      intro i hi
      by_cases e:i=k
      ·subst e;rw[HG.out];exact hb
      ·exact hall.out i (by omega)
     clear HG;go_wp2
     go_roundg (L.length-(k+1))
     case measure=>omega
     case rel=>exact⟨k+1,by omega,rfl,by go_num,HN,rfl⟩
    ·have HF:Hid (aL L x=some k):=gK hlt (by rw[HG.out];exact hb) hall.out
     clear HG;go_wp2;go_ret;exact⟨ar (by rw[HF.out];rfl),rfl⟩
  ·have HF:Hid (aL L x=none):=fQ (fun i hi=>hall.out i (by omega))
   go_wp2;go_ret;exact⟨ar (by rw[HF.out];rfl),rfl⟩
theorem yo(c:Int)(n:Nat)(w:World)(hc:-9223372036854775808<=c/\c<=9223372036854775807)(hn:1<=n/\n<=1073741824) :
  Calls Tryz.prog 16 #[.int .i64 c,.int .i64 n] w fun e w'=>e=.returned (.int .i64 (ii c n:Nat))/\w'=w:=by
 have hn1:(1:Int)<=(n:Int):=by omega
 have hn2:(n:Int)<=1073741824:=by omega
 have hnz:((n:Int)==0)=false:=beq_eq_false_iff_ne.2 (by omega)
 by_cases h0:c<0
 ·have h1:0<=(-(c+1)).tmod n/\(-(c+1)).tmod n<n:=⟨Int.tmod_nonneg _ (by omega),Int.tmod_lt_of_pos _ (by omega)⟩
  have H1:Hid ((-(c+1)).tmod n=((ii c n:Nat):Int)):=by show _=_;unfold ii;rw[if_pos h0];omega
  clear h1;go_enter Tryz.func16,Tryz.ntmps16;go_wp2
  all_goals go_ret
  all_goals exact⟨ar (by rw[<-Int.neg_tmod];exact H1.out),rfl⟩
 ·have h1:0<=c.tmod n/\c.tmod n<n:=⟨Int.tmod_nonneg _ (by omega),Int.tmod_lt_of_pos _ (by omega)⟩
  have H1:Hid (c.tmod n=((ii c n:Nat):Int)):=by show _=_;unfold ii;rw[if_neg h0];omega
  clear h1;go_enter Tryz.func16,Tryz.ntmps16;go_wp2
  all_goals go_ret
  all_goals exact⟨ar (by rw[<-Int.tmod_eq_emod_of_nonneg (by omega)];exact H1.out),rfl⟩
def AQ(x:Nat)(T:ByteArray)(rv:Value)(n:dM)(H:Nat->Hd):List Value :=
 [.pointer (some ⟨x,0,none⟩),.string T,rv,.int .i64 n.mod,.slice (H 0).ao n.syms.length (H 0).cap,.slice (H 1).ao n.weight.length (H 1).cap,.slice (H 2).ao n.codes.length (H 2).cap,.slice (H 3).ao n.masks.length (H 3).cap,.slice (H 4).ao n.lin.length (H 4).cap]
def ff(n:dM):Nat->eI
 | 0=>am n.syms
 | 1=>eB n.weight
 | 2=>am n.codes
 | 3=>eB n.masks
 | 4=>am n.lin
 | _+5=>am []
structure dH(n:dM)(N:Nat):Prop where
 mod:n.mod<=3
 sw:n.weight.length=n.syms.length
 cm:n.masks.length=n.codes.length
 ls:n.syms.length<=N
 lc:n.codes.length<=N
 ll:n.lin.length<=N
 wb:∀a∈n.weight,-9223372036854775808<=a/\a<=9223372036854775807
 mb:∀a∈n.masks,-9223372036854775808<=a/\a<=9223372036854775807
abbrev bm (w:World) (b x:Nat) (T:ByteArray) (rv:Value) (n:dM) (H:Nat->Hd):Prop:=af w b 37 (AQ x T rv n H) (ff n) H
section
variable {w:World} {b x:Nat} {T:ByteArray} {rv:Value} {n:dM} {H:Nat->Hd}
theorem bm.in_(h:bm w b x T rv n H):w.cell? ⟨b,3,none⟩=some (.int .i64 n.mod)/\w.cell? ⟨b,4,none⟩=some (.slice (H 0).ao n.syms.length (H 0).cap)/\w.cell? ⟨b,5,none⟩=some (.slice (H 1).ao n.weight.length (H 1).cap)/\w.cell? ⟨b,6,none⟩=some (.slice (H 2).ao n.codes.length (H 2).cap)/\w.cell? ⟨b,7,none⟩=some (.slice (H 3).ao n.masks.length (H 3).cap)/\w.cell? ⟨b,8,none⟩=some (.slice (H 4).ao n.lin.length (H 4).cap):=by
 refine⟨?_,?_,?_,?_,?_,?_⟩ <;> (rw[af.cell h];rfl)
theorem bm.own(h:bm w b x T rv n H):au w (H 0) (am n.syms)/\au w (H 1) (eB n.weight)/\au w (H 2) (am n.codes)/\au w (H 3) (eB n.masks)/\au w (H 4) (am n.lin):=⟨af.own h 0,af.own h 1,af.own h 2,af.own h 3,af.own h 4⟩
end
theorem mF{w:World}{hd:Hd}{l:List Int}(h:au w hd (eB l)){k:Nat}(hk:k<l.length):∃g,hd.ao=some ⟨g,0,none⟩/\g<w.heap.size/\w.cell? ⟨g,k,none⟩=some (.int .i64 l[k])/\l.length<=hd.cap:=by
 rcases h.ways with ⟨-,e,-⟩ | ⟨g,cur,e1,e2,e3,-⟩
 ·have e:l.length=0:=e
  omega
 ·exact⟨g,e1,h.lt (by unfold Hd.blk;rw[e1];rfl),h.cell e1 k _ (by simp[eB,hk]),e3⟩
theorem j6(b x:Nat)(T:ByteArray)(rv:Value)(n:dM)(H:Nat->Hd)(t:ByteArray)(r:Nat)(w:World)(h:bm w b x T rv n H)(ok:dH n 1073741824)(hr:r<=3) :
  Calls Tryz.prog 67 #[.pointer (some ⟨b,3,none⟩),.string t,.int .i64 r] w fun e w'=>e=.returned (.bool (bL n t r))/\aa [] w w':=by
 obtain⟨-,-,-,c6,c7,-⟩:=h.in_;obtain⟨-,-,o2,o3,-⟩:=h.own;have hbw:=af.lt h;have HFI:=(show Hid _ from eC (H 2) n.codes t w o2.view ok.lc)
 cases hp:aL n.codes t with
 | none =>
  have HA:Hid (bL n t r=true):=by show _=_;unfold bL;rw[hp]
  rw[hp]at HFI;clear o2 o3;go_enter Tryz.func67,Tryz.ntmps67;go_wp2_with (go_at_call 32;refine Calls.mono HFI.out ?_;rintro e w1 ⟨rfl,hw1⟩;rw[hw1];clear hw1);go_ret;exact⟨GQ HA.out.symm,aa.refl _ _⟩
 | some i =>
  have hi:i<n.masks.length:=by have:=List.mem_of_find?_eq_some hp;have:=List.mem_range.1 this;rw[ok.cm];exact this
  obtain⟨g,e1,gw,c0,hcp⟩:=mF o3 hi
  have HA:Hid (bL n t r=(bits BinOp.and IntKind.i64 (n.masks[i] / 2 ^ r) 1==1)):=by
   show _=_;unfold bL;rw[hp];simp only;rw[List.getD_eq_getElem?_getD,List.getElem?_eq_getElem hi];rfl
  have hmb:=ok.mb n.masks[i] (List.getElem_mem hi);rw[hp,show bQ (some i)=(i:Int) from rfl]at HFI;rw[e1]at c7;generalize n.masks[i]=m at *;have hii:(i:Int)<(n.masks.length:Int):=by omega
  have hr0:(0:Int)<=(r:Int):=by omega
  have hr3:(r:Int)<=3:=by omega
  clear o2 o3 ok;go_enter Tryz.func67,Tryz.ntmps67;go_wp2_with (go_at_call 32;refine Calls.mono HFI.out ?_;rintro e w1 ⟨rfl,hw1⟩;rw[hw1];clear hw1);go_ret;exact⟨GQ HA.out.symm,aa.refl _ _⟩
theorem dL{w:World}{hd:Hd}{L:List ByteArray}(v:bH w hd L){k:Nat}(hk:k<L.length):∃g off,hd.ao=some ⟨g,off,none⟩/\L.length<=hd.cap/\∀wx,aa [] w wx->g<wx.heap.size/\wx.cell? ⟨g,off+k,none⟩=some (.string L[k]):=by
 rcases v with h0 | ⟨g,off,cur,t,e1,e2,e3,e4,e5⟩
 ·rw[h0]at hk;simp at hk
 ·refine⟨g,off,e1,e4,fun wx q=>⟨Nat.lt_of_lt_of_le (ac e2) q.size,?_⟩⟩
  rw[ab (q.get e2 (by simp))];exact e3 k L[k] (List.getElem?_eq_getElem hk)
theorem B0{w:World}{hd:Hd}{l:List Int}(h:au w hd (eB l)){k:Nat}(hk:k<l.length):∃g,hd.ao=some ⟨g,0,none⟩/\l.length<=hd.cap/\∀wx,aa [] w wx->g<wx.heap.size/\wx.cell? ⟨g,k,none⟩=some (.int .i64 l[k]):=by
 obtain⟨g,e1,-,-,e4⟩:=mF h hk;refine⟨g,e1,e4,fun wx q=>?_⟩;obtain⟨g',e1',gw,c,-⟩:=mF (h.still q) hk;have:g'=g:=by rw[e1]at e1';cases e1';rfl
 subst this;exact⟨gw,c⟩
theorem jZ{α:Type}(p:α->Bool)(l:List α)(k:Nat)(h:k<l.length):(l.take (k+1)).all p=((l.take k).all p&&p l[k]):=by
 rw[List.take_succ_eq_append_getElem h,List.all_append];simp
theorem tE(p:Nat->Bool)(k:Nat):(List.range (k+1)).any p=((List.range k).any p||p k):=by
 rw[List.range_succ,List.any_append];simp
set_option maxRecDepth 100000 in
theorem pP(b x:Nat)(T:ByteArray)(rv:Value)(n:dM)(H:Nat->Hd)(w:World)(h:bm w b x T rv n H)(ok:dH n 1073741824) :
  Calls Tryz.prog 33 #[.pointer (some ⟨b,3,none⟩)] w fun e w'=>e=.returned (.bool (ik n))/\aa [] w w':=by
 have hlc:=ok.lc;have hmo:=ok.mod;have hbw:=af.lt h;have HAL:Hid (∀t (r:Nat) wx,r<=3->aa [] w wx->Calls Tryz.prog 67 #[.pointer (some ⟨b,3,none⟩),.string t,.int .i64 r] wx fun e w'=>e=.returned (.bool (bL n t r))/\aa [] wx w'):=fun t r wx hr k=>j6 b x T rv n H t r wx (af.still h k) ok hr
 have HS:Hid (∀wx,aa [] w wx->wx.cell? ⟨b,3,none⟩=some (.int .i64 n.mod)/\wx.cell? ⟨b,6,none⟩=some (.slice (H 2).ao n.codes.length (H 2).cap)/\b<wx.heap.size):=fun wx k=>by
  obtain⟨c3,-,-,c6,-,-⟩:=bm.in_ (af.still h k);exact⟨c3,c6,Nat.lt_of_lt_of_le hbw k.size⟩
 have HO:=(show Hid (bH w (H 2) n.codes) from h.own.2.2.1.view);have HP:Hid (ik n=n.codes.all (kH n)):=rfl;clear h ok;obtain⟨AO,HAO⟩:∃AO,Hid ((H 2).ao=AO):=⟨_,rfl⟩
 rw[HAO.out]at HS;go_enter Tryz.func33,Tryz.ntmps33;go_wp2
 go_loopg [3] n.codes.length (fun g iv wr=>∃k:Nat,k<=n.codes.length/\g=n.codes.length-k/\iv=.int .i64 k/\Hid ((n.codes.take k).all (kH n)=true)/\aa [] w wr)
 case atStart=>exact⟨0,by omega,by omega,rfl,by show _=_;simp,aa.refl _ _⟩
 case round =>
  obtain⟨k,hk,hg,rfl,HT,hK⟩:=hrel;obtain⟨c3,c6,hbr⟩:=HS.out wr hK
  by_cases hlt:k<n.codes.length
  ·obtain⟨g,off,e1,hcp,HC⟩:=dL HO.out hlt
   obtain rfl:AO=some ⟨g,off,none⟩:=HAO.out.symm.trans e1;have HNX:=(show Hid _ from jZ (kH n) n.codes k hlt);have HSO:Hid (∀t,kH n t=(List.range (n.mod+1)).any (bL n t)):=fun t=>rfl
   have HFA:Hid (kH n n.codes[k]=false->ik n=false):=fun hf=>by
    rw[HP.out]
    cases c:n.codes.all (kH n)
    ·rfl
    ·have:=List.all_eq_true.1 c _ (List.getElem_mem hlt);rw[hf]at this;cases this
   have hki:(k:Int)<(n.codes.length:Int):=by omega
   generalize n.codes[k]=t at *;go_wp2
   go_loopg [4,5] (n.mod+1) (fun g2 sv rv2 ws=>∃r:Nat,r<=n.mod+1/\g2=n.mod+1-r/\sv=.bool ((List.range r).any (bL n t))/\rv2=.int .i64 r/\aa [] w ws)
   case atStart=>exact⟨0,by omega,by omega,rfl,rfl,hK⟩
   case round =>
    obtain⟨r,hr,hgr,rfl,rfl,hKs⟩:=hrel;clear c3 c6 hbr;obtain⟨c3,c6,hbr⟩:=HS.out _ hKs
    by_cases hrl:r<n.mod+1
    ·have hri:(r:Int)<=(n.mod:Int):=by omega
     obtain⟨gw,cg⟩:=HC _ hKs;have HAL1:=(show Hid _ from HAL.out t r _ (by omega) hKs);have HN:=(show Hid _ from tE (bL n t) r)
     cases hs:(List.range r).any (bL n t)
     ·rw[hs,Bool.false_or]at HN
      go_wp2_with (go_at_call 67;refine Calls.mono HAL1.out ?_;rintro e w1 ⟨rfl,k1⟩)
      go_roundg (n.mod+1-(r+1))
      case measure=>omega
      case rel=>exact⟨r+1,by omega,rfl,by rw[HN.out],by go_num,hKs.trans k1⟩
     ·rw[hs,Bool.true_or]at HN
      go_wp2_with (go_at_call 67;refine Calls.mono HAL1.out ?_;rintro e w1 ⟨rfl,k1⟩)
      go_roundg (n.mod+1-(r+1))
      case measure=>omega
      case rel=>exact⟨r+1,by omega,rfl,by rw[HN.out],by go_num,hKs.trans k1⟩
    ·have hri:¬(r:Int)<=(n.mod:Int):=by omega
     have er:r=n.mod+1:=by omega
     subst er;have HV:=(show Hid _ from HSO.out t);rw[<-HSO.out t]
     cases hs:kH n t
     ·have HR:=(show Hid _ from HFA.out hs)
      go_wp2;go_ret;exact⟨GQ HR.out.symm,hKs⟩
     ·rw[hs,Bool.and_true]at HNX
      go_wp2
      go_roundg (n.codes.length-(k+1))
      case measure=>omega
      case rel=>exact⟨k+1,by omega,rfl,by go_num,by show _=_;rw[HNX.out];exact HT.out,hKs⟩
  ·have hki:¬(k:Int)<(n.codes.length:Int):=by omega
   have HR:Hid (ik n=true):=by
    show _=_
    rw[HP.out];have:=HT.out;rwa [List.take_of_length_le (by omega)]at this
   go_wp2;go_ret;exact⟨GQ HR.out.symm,hK⟩
def FM(vals:List Nat):List Int:=vals.map (fun(v:Nat)=>(v:Int))
theorem ye(vals:List Nat):(FM vals).length=vals.length:=by unfold FM;rw[List.length_map]
def EG(n:dM)(vars:List ByteArray)(vals:List Nat)(e:List ByteArray)(j:Nat):Nat:=tg n vars vals ((e.drop 1).take j) 0
theorem C0(n:dM)(vars:List ByteArray)(vals:List Nat)(e:List ByteArray)(k:Nat)(h1:1<=k)(hk:k<e.length):EG n vars vals e k=(EG n vars vals e (k-1)+jW n vars vals e[k]) % (n.mod+1):=by
 unfold EG tg;have hl:k-1<(e.drop 1).length:=by rw[List.length_drop];omega
 obtain⟨j,rfl⟩:∃j,k=j+1:=⟨k-1,by omega⟩
 rw[Nat.add_sub_cancel]at hl ⊢;rw[List.take_succ_eq_append_getElem hl,List.foldl_append];have e1:(e.drop 1)[j]=e[j+1]:=by rw[List.getElem_drop];congr 1;omega
 rw[e1];rfl
theorem yE(n:dM)(vars:List ByteArray)(vals:List Nat)(e:List ByteArray):∀a,a<n.mod+1->tg n vars vals e a<n.mod+1:=by
 unfold tg
 induction e with
 | nil=>intro a h;exact h
 | cons x r ih=>intro a _;exact ih _ (Nat.mod_lt _ (Nat.succ_pos _))
theorem CZ(n:dM)(vars:List ByteArray)(vals:List Nat)(e:List ByteArray)(j:Nat):EG n vars vals e j<n.mod+1:=yE n vars vals _ 0 (Nat.succ_pos _)
theorem EH(n:dM)(vars:List ByteArray)(vals:List Nat)(e:List ByteArray):EG n vars vals e (e.length-1)=dN n e vars vals:=by
 unfold EG dN;rw[List.take_of_length_le (by rw[List.length_drop];omega)]
theorem CN{a b:Int}(h:a=b):Value.int .i64 a=.int .i64 b:=by rw[h]
set_option maxRecDepth 100000 in
theorem AI(b x:Nat)(T:ByteArray)(rv:Value)(n:dM)(H:Nat->Hd)(he hv hw:Hd)(e vars:List ByteArray)(vals:List Nat)(w:World)(h:bm w b x T rv n H)(ok:dH n 1073741824)(ve:bH w he e)(vv:bH w hv vars)(ov:au w hw (eB (FM vals)))
  (hel:1<=e.length/\e.length<=1073741824) (hvl:vars.length<=1073741824) (hvs:vals.length=vars.length) (hvb:∀v∈vals,v<=n.mod) :
  Calls Tryz.prog 70 #[.pointer (some ⟨b,3,none⟩),.slice he.ao e.length he.cap,.slice hv.ao vars.length hv.cap,.slice hw.ao vals.length hw.cap] w fun r w'=>r=.returned (.int .i64 (dN n e vars vals:Nat))/\aa [] w w':=by
 have hmo:=ok.mod;have hbw:=af.lt h;have HF1:Hid (∀s wx,aa [] w wx->Calls Tryz.prog 32 #[.slice hv.ao vars.length hv.cap,.string s] wx fun r w'=>r=.returned (.int .i64 (bQ (aL vars s)))/\w'=wx):=fun s wx k=>eC hv vars s wx (vv.still k) hvl
 have HF2:Hid (∀s wx,aa [] w wx->Calls Tryz.prog 32 #[.slice (H 0).ao n.syms.length (H 0).cap,.string s] wx fun r w'=>r=.returned (.int .i64 (bQ (aL n.syms s)))/\w'=wx):=fun s wx k=>eC (H 0) n.syms s wx (h.own.1.view.still k) ok.ls
 have HPK:Hid (∀c wx,-9223372036854775808<=c/\c<=9223372036854775807->Calls Tryz.prog 16 #[.int .i64 c,.int .i64 ((n.mod:Int)+1)] wx fun r w'=>r=.returned (.int .i64 (ii c (n.mod+1):Nat))/\w'=wx):=fun c wx hc=>yo c (n.mod+1) wx hc (by omega)
 have HS:Hid (∀wx,aa [] w wx->wx.cell? ⟨b,3,none⟩=some (.int .i64 n.mod)/\wx.cell? ⟨b,4,none⟩=some (.slice (H 0).ao n.syms.length (H 0).cap)/\wx.cell? ⟨b,5,none⟩=some (.slice (H 1).ao n.weight.length (H 1).cap)/\b<wx.heap.size):=fun wx k=>by
  obtain⟨c3,c4,c5,-,-,-⟩:=bm.in_ (af.still h k);exact⟨c3,c4,c5,Nat.lt_of_lt_of_le hbw k.size⟩
 have HWT:Hid (∀c (hc:c<n.weight.length),(-9223372036854775808<=n.weight[c]/\n.weight[c]<=9223372036854775807)/\∃g,(H 1).ao=some ⟨g,0,none⟩/\n.weight.length<=(H 1).cap/\∀wx,aa [] w wx->g<wx.heap.size/\wx.cell? ⟨g,c,none⟩=some (.int .i64 n.weight[c])):=fun c hc=>⟨ok.wb _ (List.getElem_mem hc),B0 h.own.2.1 hc⟩
 have HVL:Hid (∀c (hc:c<vals.length),vals[c]<=3/\∃g,hw.ao=some ⟨g,0,none⟩/\vals.length<=hw.cap/\∀wx,aa [] w wx->g<wx.heap.size/\wx.cell? ⟨g,c,none⟩=some (.int .i64 (vals[c]:Nat))):=fun c hc=>by
  have hb:=hvb _ (List.getElem_mem hc);obtain⟨g,e1,e2,e3⟩:=B0 ov (k:=c) (by rw[ye];exact hc);refine⟨by omega,g,e1,by rw[ye]at e2;exact e2,fun wx k=>⟨(e3 wx k).1,?_⟩⟩;rw[(e3 wx k).2];simp[FM]
 have HVE:=(show Hid _ from ve)
 have HSY:Hid (∀s,(∀v,aL vars s=some v->∃hv:v<vals.length,jW n vars vals s=vals[v])/\(aL vars s=none->∀c,aL n.syms s=some c->∃hc:c<n.weight.length,jW n vars vals s=ii n.weight[c] (n.mod+1))/\(aL vars s=none->aL n.syms s=none->jW n vars vals s=0)):=fun s=>by
  refine⟨fun v hv=>?_,fun h0 c hc=>?_,fun h0 h1=>?_⟩
  ·have:v<vals.length:=by have:=List.mem_range.1 (List.mem_of_find?_eq_some hv);omega
   refine⟨this,?_⟩;unfold jW;rw[hv];simp only;rw[List.getD_eq_getElem?_getD,List.getElem?_eq_getElem this];rfl
  ·have:c<n.weight.length:=by have:=List.mem_range.1 (List.mem_of_find?_eq_some hc);rw[ok.sw];exact this
   refine⟨this,?_⟩;unfold jW;rw[h0,hc];simp only;rw[List.getD_eq_getElem?_getD,List.getElem?_eq_getElem this];rfl
  ·unfold jW;rw[h0,h1]
 have HNX:=(show Hid _ from C0 n vars vals e);have HLT:=(show Hid _ from CZ n vars vals e);have HAL:=(show Hid _ from EH n vars vals e)
 have HM:Hid (∀s y:Nat,((s:Int)+(y:Int)) % ((n.mod:Int)+1)=(((s+y) % (n.mod+1):Nat):Int)):=fun s y=>by
  push_cast;rfl
 have hmi:((n.mod:Int)+1==0)=false:=beq_eq_false_iff_ne.2 (by omega);clear h ok ve vv ov hvs;obtain⟨AE,HAE⟩:∃AO,Hid (he.ao=AO):=⟨_,rfl⟩
 obtain⟨AV,HAV⟩:∃AO,Hid (hv.ao=AO):=⟨_,rfl⟩
 obtain⟨AW,HAW⟩:∃AO,Hid (hw.ao=AO):=⟨_,rfl⟩
 obtain⟨A0,HA0⟩:∃AO,Hid ((H 0).ao=AO):=⟨_,rfl⟩
 obtain⟨A1,HA1⟩:∃AO,Hid ((H 1).ao=AO):=⟨_,rfl⟩
 rw[HAV.out]at HF1;rw[HA0.out]at HF2 HS;rw[HA1.out]at HS HWT;rw[HAW.out]at HVL;rw[HAE.out,HAV.out,HAW.out];obtain⟨c3,c4,c5,hbr⟩:=HS.out w (aa.refl _ _);go_enter Tryz.func70,Tryz.ntmps70;go_wp2
 go_loopg [10,11] (e.length-1) (fun g sv iv wr=>∃(k s:Nat),(1<=k/\k<=e.length)/\g=e.length-k/\sv=.int .i64 s/\iv=.int .i64 k/\Hid (s=EG n vars vals e (k-1))/\s<=3/\aa [] w wr)
 case atStart=>exact⟨1,0,⟨by omega,by omega⟩,by omega,rfl,rfl,by show _=_;unfold EG;simp[tg],by omega,aa.refl _ _⟩
 case round =>
  obtain⟨k,s,⟨hk1,hk⟩,hg,rfl,rfl,HSM,hs3,hK⟩:=hrel;clear c3 c4 c5 hbr;obtain⟨c3,c4,c5,hbr⟩:=HS.out wr hK
  by_cases hlt:k<e.length
  ·obtain⟨ge,oe,e1,hcp,HC⟩:=dL HVE.out hlt
   obtain rfl:AE=some ⟨ge,oe,none⟩:=HAE.out.symm.trans e1;have HN:=(show Hid _ from HNX.out k hk1 hlt);have HLT1:=(show Hid _ from HLT.out k);obtain⟨gw,cg⟩:=HC wr hK;have hki:(k:Int)<(e.length:Int):=by omega
   have HSY1:=(show Hid _ from HSY.out e[k]);rw[<-HSM.out]at HN;generalize e[k]=y at *;have HF1y:=(show Hid _ from HF1.out y);have HF2y:=(show Hid _ from HF2.out y);clear HF1 HF2 HNX HLT HSY
   go_upto_region 7 with (go_at_call 32;refine Calls.mono (HF1y.out _ hK) ?_;rintro e2 w1 ⟨rfl,hw1⟩;rw[hw1];clear hw1)
   go_region_held3 (fun w'=>w'.cell? ⟨b,4,none⟩=some (.slice A0 n.syms.length (H 0).cap)/\w'.cell? ⟨ge,oe+k,none⟩=some (.string y)) (go_keep) ((go_at_call 32;refine Calls.mono (HF2y.out _ (by exact hK.drew)) ?_;rintro e2 w2 ⟨rfl,hw2⟩;rw[hw2];clear hw2))
   have hK2:aa [] w wr.drew:=hK.drew;generalize wr.drew=wd at *;clear c3 c4 c5 hbr gw cg HF1y HF2y;obtain⟨c3,c4,c5,hbr⟩:=HS.out wd hK2;have hs0:(s:Int)<=3:=by omega
   cases hp:aL vars y with
   | some v =>
    obtain⟨hvv,hsy⟩:=HSY1.out.1 v hp;obtain⟨hy3,gv,ev,hvc,HVC⟩:=HVL.out v hvv;subst ev;obtain⟨gvw,cv⟩:=HVC wd hK2;rw[hsy]at HN;have hvi:(v:Int)<(vals.length:Int):=by omega
    generalize vals[v]=u at *;have hu3:(u:Int)<=3:=by omega
    have HM1:=(show Hid _ from HM.out s u);rw[show bQ (some v)=(v:Int) from rfl];clear HSY1 HVL HVC HM;go_wp2
    go_roundg (e.length-(k+1))
    case measure=>omega
    case rel=>exact⟨k+1,(s+u) % (n.mod+1),⟨by omega,by omega⟩,rfl,CN HM1.out,by go_num,by show _=_;rw[Nat.add_sub_cancel,HN.out],by have:=Nat.mod_lt (s+u) (show 0<n.mod+1 by omega);omega,hK2⟩
   | none =>
    cases hq:aL n.syms y with
    | some c =>
     obtain⟨hcw,hsy⟩:=HSY1.out.2.1 hp c hq;obtain⟨hwb,gv,ev,hvc,HVC⟩:=HWT.out c hcw;subst ev;obtain⟨gvw,cv⟩:=HVC wd hK2;rw[hsy]at HN;have hci:(c:Int)<(n.weight.length:Int):=by omega
     have HPK1:=(show Hid _ from HPK.out n.weight[c] wd hwb);have hu3:=uG n.weight[c] (n.mod+1) (Nat.succ_pos _);generalize n.weight[c]=wt at *;generalize ii wt (n.mod+1)=u at *;have hu3:(u:Int)<=3:=by omega
     have HM1:=(show Hid _ from HM.out s u);rw[show bQ (some c)=(c:Int) from rfl,show bQ none=-1 from rfl];clear HSY1 HWT HVC HM;go_wp2_with (go_at_call 16;refine Calls.mono HPK1.out ?_;rintro e2 w1 ⟨rfl,hw1⟩;rw[hw1];clear hw1)
     go_roundg (e.length-(k+1))
     case measure=>omega
     case rel=>exact⟨k+1,(s+u) % (n.mod+1),⟨by omega,by omega⟩,rfl,CN HM1.out,by go_num,by show _=_;rw[Nat.add_sub_cancel,HN.out],by have:=Nat.mod_lt (s+u) (show 0<n.mod+1 by omega);omega,hK2⟩
    | none =>
     have hsy:=HSY1.out.2.2 hp hq;have hsl:=HLT1.out;rw[hsy,Nat.add_zero]at HN
     have HN2:Hid (s=EG n vars vals e k):=by
      show _=_
      rw[HN.out];exact(Nat.mod_eq_of_lt (by rw[HSM.out];exact CZ n vars vals e (k-1))).symm
     rw[show bQ none=-1 from rfl];clear HSY1;go_wp2
     go_roundg (e.length-(k+1))
     case measure=>omega
     case rel=>exact⟨k+1,s,⟨by omega,by omega⟩,rfl,rfl,by go_num,by show _=_;rw[Nat.add_sub_cancel];exact HN2.out,hs3,hK2⟩
  ·have hki:¬(k:Int)<(e.length:Int):=by omega
   have HR:Hid (s=dN n e vars vals):=by show _=_;rw[HSM.out,show k=e.length by omega];exact HAL.out
   go_wp2;go_ret;exact⟨ar (by rw[HR.out]),hK⟩
def xr(e:List ByteArray)(x y:ByteArray)(i j:Nat):Bool:=!(i==0) && !(j==0) && !(i==j)&&(gD e i).toList==x.toList&&(gD e j).toList==y.toList
theorem vm(e:List ByteArray)(x y:ByteArray):ig e x y=(List.range e.length).any (fun i=>(List.range e.length).any (xr e x y i)):=rfl
theorem GM(e:List ByteArray)(x y:ByteArray)(i j:Nat)(h:i<1):xr e x y i j=false:=by
 obtain rfl:i=0:=by omega
 rfl
theorem GN(e:List ByteArray)(x y:ByteArray)(i j:Nat)(h:j<1):xr e x y i j=false:=by
 obtain rfl:j=0:=by omega
 unfold xr;simp
theorem gU(e:List ByteArray)(i:Nat)(h:i<e.length):gD e i=e[i]:=by
 unfold gD;rw[List.getD_eq_getElem?_getD,List.getElem?_eq_getElem h];rfl
set_option maxRecDepth 100000 in
theorem Ay(he:Hd)(e:List ByteArray)(x y:ByteArray)(w:World)(ve:bH w he e)(hel:1<=e.length/\e.length<=1073741824) :
  Calls Tryz.prog 89 #[.slice he.ao e.length he.cap,.string x,.string y] w fun r w'=>r=.returned (.bool (ig e x y))/\aa [] w w':=by
 have HVE:=(show Hid _ from ve)
 have HY:Hid (∀i j,i<e.length->j<e.length->xr e x y i j=true->ig e x y=true):=fun i j hi hj h=>by
  rw[vm,List.any_eq_true];exact⟨i,List.mem_range.2 hi,List.any_eq_true.2 ⟨j,List.mem_range.2 hj,h⟩⟩
 have HN:Hid ((∀i,i<e.length->∀j,j<e.length->xr e x y i j=false)->ig e x y=false):=fun h=>by
  rw[vm,List.any_eq_false];intro i hi;rw[Bool.not_eq_true,List.any_eq_false];intro j hj;rw[h i (List.mem_range.1 hi) j (List.mem_range.1 hj)];simp
 clear ve;obtain⟨AE,HAE⟩:∃AO,Hid (he.ao=AO):=⟨_,rfl⟩
 rw[HAE.out];go_enter Tryz.func89,Tryz.ntmps89;go_wp2
 go_loopg [7] (e.length-1) (fun g iv wr=>∃k:Nat,(1<=k/\k<=e.length)/\g=e.length-k/\iv=.int .i64 k/\Hid (∀i,i<k->∀j,j<e.length->xr e x y i j=false)/\aa [] w wr)
 case atStart=>exact⟨1,⟨by omega,by omega⟩,rfl,rfl,fun i hi j _=>GM e x y i j (by omega),aa.refl _ _⟩
 case round =>
  obtain⟨k,⟨hk1,hk⟩,hg,rfl,HA,hK⟩:=hrel
  by_cases hlt:k<e.length
  ·have hki:(k:Int)<(e.length:Int):=by omega
   obtain⟨ge,oe,e1,hcp,HC⟩:=dL HVE.out hlt;obtain rfl:AE=some ⟨ge,oe,none⟩:=HAE.out.symm.trans e1;have HGk:=(show Hid _ from gU e k hlt);go_wp2
   go_loopg [8] (e.length-1) (fun g jv ws=>∃m:Nat,(1<=m/\m<=e.length)/\g=e.length-m/\jv=.int .i64 m/\Hid (∀j,j<m->xr e x y k j=false)/\aa [] w ws)
   case atStart=>exact⟨1,⟨by omega,by omega⟩,rfl,rfl,fun j hj=>GN e x y k j (by omega),hK⟩
   case round =>
    obtain⟨m,⟨hm1,hm⟩,hgm,rfl,HB,hKs⟩:=hrel
    by_cases hml:m<e.length
    ·have hmi:(m:Int)<(e.length:Int):=by omega
     obtain⟨ge',oe',e1',-,HC'⟩:=dL HVE.out hml;have ee:ge'=ge/\oe'=oe:=by rw[e1]at e1';cases e1';exact⟨rfl,rfl⟩
     obtain⟨rfl,rfl⟩:=ee;obtain⟨gw,ck⟩:=HC _ hKs;obtain⟨-,cm⟩:=HC' _ hKs;have HGm:=(show Hid _ from gU e m hml)
     have HTW:Hid (xr e x y k m=(!(k==m)&&(e[k].toList==x.toList)&&(e[m].toList==y.toList))):=by
      show _=_
      unfold xr;rw[HGk.out,HGm.out];have z1:(k==0)=false:=by rw[beq_eq_false_iff_ne];omega
      have z2:(m==0)=false:=by rw[beq_eq_false_iff_ne];omega
      rw[z1,z2];simp
     have HNB:Hid (xr e x y k m=false->∀j,j<m+1->xr e x y k j=false):=fun h j hj=>by
      by_cases c:j=m
      ·rw[c];exact h
      ·exact HB.out j (by omega)
     have HYY:=(show Hid _ from HY.out k m hlt hml);clear HY HN HA HGk HGm HC';generalize e[k]=u at *;generalize e[m]=v at *
     by_cases hkm:k=m
     ·have hn:((k:Int) != (m:Int))=false:=by simp[hkm]
      have HZ:Hid (xr e x y k m=false):=by show _=_;rw[HTW.out];simp[hkm]
      go_wp2
      go_roundg (e.length-(m+1))
      case measure=>omega
      case rel=>exact⟨m+1,⟨by omega,by omega⟩,rfl,by go_num,HNB.out HZ.out,hKs⟩
     ·have hn:((k:Int) != (m:Int))=true:=by simp;omega
      have hkm':(k==m)=false:=by rw[beq_eq_false_iff_ne];exact hkm
      rw[hkm']at HTW
      cases hx:(u.toList==x.toList)
      ·have HZ:Hid (xr e x y k m=false):=by show _=_;rw[HTW.out,hx];rfl
       go_wp2
       go_roundg (e.length-(m+1))
       case measure=>omega
       case rel=>exact⟨m+1,⟨by omega,by omega⟩,rfl,by go_num,HNB.out HZ.out,hKs⟩
      ·cases hy:(v.toList==y.toList)
       ·have HZ:Hid (xr e x y k m=false):=by show _=_;rw[HTW.out,hx,hy];rfl
        go_wp2
        go_roundg (e.length-(m+1))
        case measure=>omega
        case rel=>exact⟨m+1,⟨by omega,by omega⟩,rfl,by go_num,HNB.out HZ.out,hKs⟩
       ·have HZ:Hid (ig e x y=true):=HYY.out (by rw[HTW.out,hx,hy];rfl)
        go_wp2;go_ret;exact⟨GQ HZ.out.symm,hKs⟩
    ·have hmi:¬(m:Int)<(e.length:Int):=by omega
     go_wp2
     go_roundg (e.length-(k+1))
     case measure=>omega
     case rel=>exact⟨k+1,⟨by omega,by omega⟩,rfl,by go_num,fun i hi j hj=>(by
      by_cases c:i=k
      ·rw[c];exact HB.out j (by omega)
      ·exact HA.out i (by omega) j hj),hKs⟩
  ·have hki:¬(k:Int)<(e.length:Int):=by omega
   have HR:Hid (ig e x y=false):=HN.out (fun i hi=>HA.out i (by omega));go_wp2;go_ret;exact⟨GQ HR.out.symm,hK⟩
section
variable {w:World} {F n:Nat} {lab:ByteArray} {lv:Value} {f:Fm} {es:List Ex} {hg:Hd} {H:Nat->Hd}
theorem eJ.rd(h:eJ w F n lab lv f es hg H):w.cell? ⟨F,4,none⟩=some (.slice (H 2).ao f.vars.length (H 2).cap)/\w.cell? ⟨F,5,none⟩=some (.slice (H 3).ao f.types.length (H 3).cap)/\w.cell? ⟨F,6,none⟩=some (.slice (H 4).ao es.length (H 4).cap)/\w.cell? ⟨F,7,none⟩=some (.slice (H 5).ao f.left.length (H 5).cap)/\w.cell? ⟨F,8,none⟩=some (.slice (H 6).ao f.right.length (H 6).cap)/\w.cell? ⟨F,9,none⟩=some (.slice hg.ao f.goal.length hg.cap)/\F<w.heap.size:=by
 refine⟨?_,?_,?_,?_,?_,?_,h.bag.lt⟩ <;> (rw[h.bag.cell];rfl)
theorem eJ.vw(h:eJ w F n lab lv f es hg H):bH w (H 2) f.vars/\bH w (H 3) f.types/\bH w (H 5) f.left/\bH w (H 6) f.right/\bH w hg f.goal :=
 ⟨au.view (h.bag.own 2),au.view (h.bag.own 3),au.view (h.bag.own 5),au.view (h.bag.own 6),h.gl.1⟩
theorem eJ.ex(h:eJ w F n lab lv f es hg H){k:Nat}(hk:k<es.length):∃g,(H 4).ao=some ⟨g,0,none⟩/\es.length<=(H 4).cap/\∀wx,aa [] w wx->g<wx.heap.size/\wx.cell? ⟨g,k,none⟩=some (.slice es[k].hd.ao es[k].xs.length es[k].hd.cap)/\bH wx es[k].hd es[k].xs:=by
 have o:au w (H 4) (cE es):=h.bag.own 4
 rcases o.ways with ⟨-,e,-⟩ | ⟨g,cur,e1,e2,e3,-⟩
 ·have e:es.length=0:=e
  omega
 ·refine⟨g,e1,e3,fun wx q=>⟨Nat.lt_of_lt_of_le (ac e2) q.size,?_,(h.exs _ (List.getElem_mem hk)).view.still q⟩⟩
  have:=(o.still q).cell e1 k (od es[k]) (by simp[cE,sj,hk]);exact this
theorem eJ.esl(h:eJ w F n lab lv f es hg H):es.length=f.ess.length/\∀k (hk:k<es.length) (hk2:k<f.ess.length),f.ess[k]=es[k].xs:=by
 have e:=h.ess;have e2:=congrArg List.length e;rw[List.length_map]at e2;refine⟨e2,fun k hk hk2=>?_⟩;have:f.ess[k]?=(es.map (·.xs))[k]?:=by rw[e]
 rw[List.getElem?_eq_getElem hk2,List.getElem?_map,List.getElem?_eq_getElem hk]at this;exact Option.some.inj this
end
def FO(f:Fm)(x y:ByteArray)(i:Nat):Bool:=((gD f.left i).toList==x.toList&&(gD f.right i).toList==y.toList)||((gD f.left i).toList==y.toList&&(gD f.right i).toList==x.toList)
set_option maxRecDepth 100000 in
theorem oO(F n:Nat)(lab:ByteArray)(lv:Value)(f:Fm)(es:List Ex)(hg:Hd)(H:Nat->Hd)(x y:ByteArray)(w:World)(h:eJ w F n lab lv f es hg H)(hl:f.left.length<=1073741824/\f.right.length=f.left.length) :
  Calls Tryz.prog 72 #[.pointer (some ⟨F,0,none⟩),.string x,.string y] w fun r w'=>r=.returned (.bool (eG f x y))/\aa [] w w':=by
 obtain⟨-,-,-,c7,c8,-,hF⟩:=h.rd;obtain⟨-,-,v5,v6,-⟩:=h.vw;have HV5:=(show Hid _ from v5);have HV6:=(show Hid _ from v6);have HP:Hid (eG f x y=(List.range f.left.length).any (FO f x y)):=rfl;obtain⟨hl,hr⟩:=hl;have HR:=(show Hid _ from hr);clear h v5 v6 hr;obtain⟨A5,HA5⟩:∃AO,Hid ((H 5).ao=AO):=⟨_,rfl⟩
 obtain⟨A6,HA6⟩:∃AO,Hid ((H 6).ao=AO):=⟨_,rfl⟩
 rw[HA5.out]at c7;rw[HA6.out]at c8;go_enter Tryz.func72,Tryz.ntmps72;go_wp2
 go_loopg [7] f.left.length (fun g iv wr=>∃k:Nat,k<=f.left.length/\g=f.left.length-k/\iv=.int .i64 k/\Hid ((List.range k).any (FO f x y)=false)/\wr=w)
 case atStart=>exact⟨0,by omega,rfl,rfl,rfl,rfl⟩
 case round =>
  obtain⟨k,hk,hg,rfl,HT,rfl⟩:=hrel
  by_cases hlt:k<f.left.length
  ·have hki:(k:Int)<(f.left.length:Int):=by omega
   have hlr:k<f.right.length:=by rw[HR.out];exact hlt
   have hkr:(k:Int)<(f.right.length:Int):=by omega
   obtain⟨g5,o5,e5,hc5,HC5⟩:=dL HV5.out hlt;obtain⟨g6,o6,e6,hc6,HC6⟩:=dL HV6.out hlr;obtain rfl:A5=some ⟨g5,o5,none⟩:=HA5.out.symm.trans e5;obtain rfl:A6=some ⟨g6,o6,none⟩:=HA6.out.symm.trans e6;obtain⟨w5,d5⟩:=HC5 wr (aa.refl _ _);obtain⟨w6,d6⟩:=HC6 wr (aa.refl _ _)
   have HQ:Hid (FO f x y k=((f.left[k].toList==x.toList&&f.right[k].toList==y.toList)||(f.left[k].toList==y.toList&&f.right[k].toList==x.toList))):=by
    show _=_;unfold FO;rw[gU _ _ hlt,gU _ _ hlr]
   have HN:=(show Hid _ from tE (FO f x y) k);rw[HT.out,Bool.false_or]at HN
   have HYY:Hid (FO f x y k=true->eG f x y=true):=fun hh=>by
    rw[HP.out,List.any_eq_true];exact⟨k,List.mem_range.2 hlt,hh⟩
   generalize f.left[k]=a at *;generalize f.right[k]=b at *;clear HC5 HC6
   cases h1:(a.toList==x.toList) <;> cases h2:(b.toList==y.toList) <;> cases h3:(a.toList==y.toList) <;> cases h4:(b.toList==x.toList)
   all_goals rw[h1,h2,h3,h4]at HQ
   all_goals simp only[Bool.and_true,Bool.and_false,Bool.or_true,Bool.or_false]at HQ
   all_goals
    go_wp2
    first
    | go_ret
      exact⟨GQ (HYY.out HQ.out).symm,aa.refl _ _⟩
    | go_roundg (f.left.length-(k+1))
      case measure=>omega
      case rel=>exact⟨k+1,by omega,rfl,by go_num,by show _=_;rw[HN.out];exact HQ.out,rfl⟩
  ·have hki:¬(k:Int)<(f.left.length:Int):=by omega
   have HR:Hid (eG f x y=false):=by show _=_;rw[HP.out,show f.left.length=k by omega];exact HT.out
   go_wp2;go_ret;exact⟨GQ HR.out.symm,aa.refl _ _⟩
theorem je(p:Nat->Bool)(k:Nat):(List.range (k+1)).all p=((List.range k).all p&&p k):=by
 rw[List.range_succ,List.all_append];simp
def Ek(f:Fm)(e:List ByteArray)(i j:Nat):Bool:=decide (j=0)||Cd f (gD e i) (gD e j)
def Ga(f:Fm)(e:List ByteArray)(i:Nat):Bool:=(List.range i).all (Ek f e i)
theorem zu(f:Fm)(e:List ByteArray):di f e=(List.range e.length).all (Ga f e):=rfl
theorem yL{p:Nat->Bool}{n k:Nat}(hk:k<n)(hp:p k=false):(List.range n).all p=false:=by
 rw[List.all_eq_false];exact⟨k,List.mem_range.2 hk,by rw[hp];simp⟩
set_option maxRecDepth 100000 in
theorem wz(F n:Nat)(lab:ByteArray)(lv:Value)(f:Fm)(es:List Ex)(hg:Hd)(H:Nat->Hd)(he:Hd)(e:List ByteArray)(w:World)(h:eJ w F n lab lv f es hg H)(ve:bH w he e)(hl:f.left.length<=1073741824/\f.right.length=f.left.length)(hvl:f.vars.length<=1073741824)(hel:1<=e.length/\e.length<=1073741824) :
  Calls Tryz.prog 73 #[.pointer (some ⟨F,0,none⟩),.slice he.ao e.length he.cap] w fun r w'=>r=.returned (.bool (di f e))/\aa [] w w':=by
 have HVE:=(show Hid _ from ve);have HFI:Hid (∀s wx,aa [] w wx->Calls Tryz.prog 32 #[.slice (H 2).ao f.vars.length (H 2).cap,.string s] wx fun r w'=>r=.returned (.int .i64 (bQ (aL f.vars s)))/\w'=wx):=fun s wx k=>eC (H 2) f.vars s wx (h.vw.1.still k) hvl
 have HFA:Hid (∀s t wx,aa [] w wx->Calls Tryz.prog 72 #[.pointer (some ⟨F,0,none⟩),.string s,.string t] wx fun r w'=>r=.returned (.bool (eG f s t))/\aa [] wx w'):=fun s t wx k=>oO F n lab lv f es hg H s t wx (h.still k) hl
 have HS:Hid (∀wx,aa [] w wx->wx.cell? ⟨F,4,none⟩=some (.slice (H 2).ao f.vars.length (H 2).cap)/\F<wx.heap.size):=fun wx k=>by
  obtain⟨c4,-,-,-,-,-,hF⟩:=(h.still k).rd;exact⟨c4,hF⟩
 have HLE:=(show Hid _ from zu f e);clear h ve;obtain⟨AE,HAE⟩:∃AO,Hid (he.ao=AO):=⟨_,rfl⟩
 obtain⟨A2,HA2⟩:∃AO,Hid ((H 2).ao=AO):=⟨_,rfl⟩
 rw[HAE.out];rw[HA2.out]at HFI HS;go_enter Tryz.func73,Tryz.ntmps73;go_wp2
 go_loopg [5] (e.length-1) (fun g iv wr=>∃k:Nat,(1<=k/\k<=e.length)/\g=e.length-k/\iv=.int .i64 k/\Hid ((List.range k).all (Ga f e)=true)/\aa [] w wr)
 case atStart=>exact⟨1,⟨by omega,by omega⟩,rfl,rfl,rfl,aa.refl _ _⟩
 case round =>
  obtain⟨k,⟨hk1,hk⟩,hgk,rfl,HT,hK⟩:=hrel
  by_cases hlt:k<e.length
  ·have hki:(k:Int)<(e.length:Int):=by omega
   obtain⟨ge,oe,e1,hcp,HC⟩:=dL HVE.out hlt;obtain rfl:AE=some ⟨ge,oe,none⟩:=HAE.out.symm.trans e1;have HGk:=(show Hid _ from gU e k hlt);have HNX:=(show Hid _ from je (Ga f e) k);have HNO:Hid (Ga f e k=false->di f e=false):=fun hh=>by rw[HLE.out];exact yL hlt hh
   go_wp2
   go_loopg [6] (k-1) (fun g jv ws=>∃m:Nat,(1<=m/\m<=k)/\g=k-m/\jv=.int .i64 m/\Hid ((List.range m).all (Ek f e k)=true)/\aa [] w ws)
   case atStart=>exact⟨1,⟨by omega,by omega⟩,rfl,rfl,rfl,hK⟩
   case round =>
    obtain⟨m,⟨hm1,hm⟩,hgm,rfl,HB,hKs⟩:=hrel
    by_cases hml:m<k
    ·have hmi:(m:Int)<(k:Int):=by omega
     have hml2:m<e.length:=by omega
     have hme:(m:Int)<(e.length:Int):=by omega
     obtain⟨ge',oe',e1',-,HC'⟩:=dL HVE.out hml2;have ee:ge'=ge/\oe'=oe:=by rw[e1]at e1';cases e1';exact⟨rfl,rfl⟩
     obtain⟨rfl,rfl⟩:=ee;have HSS:Hid (∀wx,aa [] w wx->(wx.cell? ⟨F,4,none⟩=some (.slice A2 f.vars.length (H 2).cap)/\wx.cell? ⟨ge',oe'+k,none⟩=some (.string e[k])/\wx.cell? ⟨ge',oe'+m,none⟩=some (.string e[m]))/\F<wx.heap.size/\ge'<wx.heap.size):=fun wx q=>⟨⟨(HS.out wx q).1,(HC wx q).2,(HC' wx q).2⟩,(HS.out wx q).2,(HC wx q).1⟩
     have HGm:=(show Hid _ from gU e m hml2)
     have HJ:Hid (Ek f e k m=!((aL f.vars e[k]).isSome&&(aL f.vars e[m]).isSome && !eG f e[k] e[m])):=by
      show _=_
      unfold Ek Cd BZ;rw[HGk.out,HGm.out];have z:decide (m=0)=false:=by simp;omega
      rw[z];rfl
     have HNJ:=(show Hid _ from je (Ek f e k) m);rw[HB.out,Bool.true_and]at HNJ;have HNI:Hid (Ek f e k m=false->Ga f e k=false):=fun hh=>yL hml hh
     have HF1:=(show Hid _ from HFI.out e[k]);have HF2:=(show Hid _ from HFI.out e[m]);have HA1:=(show Hid _ from HFA.out e[k] e[m]);clear HC HC' HS HFI HFA HGk HGm;generalize e[k]=u at *;generalize e[m]=v at *;obtain⟨⟨d0,d1,d2⟩,d3,d4⟩:=HSS.out _ hKs
     go_upto_region 7 with fail
     go_region_held3 (fun w'=>w'.cell? ⟨F,4,none⟩=some (.slice A2 f.vars.length (H 2).cap)/\w'.cell? ⟨ge',oe'+k,none⟩=some (.string u)/\w'.cell? ⟨ge',oe'+m,none⟩=some (.string v)) (go_keep) ((go_at_call 32;refine Calls.mono (HF1.out _ (by exact hKs.drew)) ?_;rintro e2 w2 ⟨rfl,hw2⟩;rw[hw2];clear hw2))
     have hK1:=hKs.drew;clear d0 d1 d2 d3 d4;obtain⟨⟨d0,d1,d2⟩,d3,d4⟩:=HSS.out _ hK1;generalize World.drew _=wd at *
     go_upto_region 8 with fail
     go_region_held3 (fun w'=>w'.cell? ⟨F,4,none⟩=some (.slice A2 f.vars.length (H 2).cap)/\w'.cell? ⟨ge',oe'+k,none⟩=some (.string u)/\w'.cell? ⟨ge',oe'+m,none⟩=some (.string v)) (go_keep) ((go_at_call 32;refine Calls.mono (HF2.out _ (by exact hK1.drew)) ?_;rintro e2 w2 ⟨rfl,hw2⟩;rw[hw2];clear hw2))
     have hK2:=hK1.drew;clear d0 d1 d2 d3 d4;obtain⟨⟨d0,d1,d2⟩,d3,d4⟩:=HSS.out _ hK2;generalize wd.drew=wd2 at *
     go_upto_region 9 with fail
     go_region_held3 (fun w'=>w'.cell? ⟨F,4,none⟩=some (.slice A2 f.vars.length (H 2).cap)/\w'.cell? ⟨ge',oe'+k,none⟩=some (.string u)/\w'.cell? ⟨ge',oe'+m,none⟩=some (.string v)) (go_keep) ((go_at_call 72;refine Calls.mono (HA1.out _ (by exact hK2.drew)) ?_;rintro e2 w3 ⟨rfl,k3⟩;obtain⟨⟨d0,d1,d2⟩,d3,d4⟩:=HSS.out _ (hK2.drew.trans k3)))
     have hK3:=hK2.drew.trans k3;clear HF1 HF2 HA1 HSS;clear d0 d1 d2
     cases hpu:aL f.vars u with
     | none =>
      rw[hpu]at HJ;have HJ1:Hid (Ek f e k m=true):=HJ.out;rw[show bQ none=-1 from rfl];go_wp2
      go_roundg (k-(m+1))
      case measure=>omega
      case rel=>exact⟨m+1,⟨by omega,by omega⟩,rfl,by go_num,by show _=_;rw[HNJ.out];exact HJ1.out,hK3⟩
     | some p =>
      cases hpv:aL f.vars v with
      | none =>
       rw[hpu,hpv]at HJ;have HJ1:Hid (Ek f e k m=true):=HJ.out;rw[show bQ none=-1 from rfl,show bQ (some p)=(p:Int) from rfl];go_wp2
       go_roundg (k-(m+1))
       case measure=>omega
       case rel=>exact⟨m+1,⟨by omega,by omega⟩,rfl,by go_num,by show _=_;rw[HNJ.out];exact HJ1.out,hK3⟩
      | some q =>
       rw[show bQ (some q)=(q:Int) from rfl,show bQ (some p)=(p:Int) from rfl];rw[hpu,hpv]at HJ
       cases hpp:eG f u v
       ·rw[hpp]at HJ
        have HJ1:Hid (di f e=false):=HNO.out (HNI.out HJ.out);go_wp2;go_ret;exact⟨GQ HJ1.out.symm,hK3⟩
       ·rw[hpp]at HJ
        have HJ1:Hid (Ek f e k m=true):=HJ.out;go_wp2
        go_roundg (k-(m+1))
        case measure=>omega
        case rel=>exact⟨m+1,⟨by omega,by omega⟩,rfl,by go_num,by show _=_;rw[HNJ.out];exact HJ1.out,hK3⟩
    ·have hmi:¬(m:Int)<(k:Int):=by omega
     have em:m=k:=by omega
     subst em;go_wp2
     go_roundg (e.length-(m+1))
     case measure=>omega
     case rel=>exact⟨m+1,⟨by omega,by omega⟩,rfl,by go_num,by show _=_;rw[HNX.out,HT.out,Bool.true_and];exact HB.out,hKs⟩
  ·have hki:¬(k:Int)<(e.length:Int):=by omega
   have HR:Hid (di f e=true):=by show _=_;rw[HLE.out,show e.length=k by omega];exact HT.out
   go_wp2;go_ret;exact⟨GQ HR.out.symm,hK⟩
end Go.Proofs.YtlbhbocbakijbaaGreat
