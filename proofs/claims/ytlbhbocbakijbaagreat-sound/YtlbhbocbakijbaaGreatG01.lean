import Derived.Test.YtlbhbocbakijbaaGreatChecked
import Derived.WalkKit
import Derived.WalkSpells
import Derived.WalkLawsBesides
import Derived.Deep.QuietTactic
import Derived.BigQuiet
import Derived.Deep.LoopGhost
import Derived.Laws.CopyRow
import Derived.Laws.MakeOwn
import Derived.Deep.RegionLaw
namespace Go.Proofs.YtlbhbocbakijbaaGreat
open Go.RowKit
set_option maxHeartbeats 0
abbrev Fs:=List (ByteArray×ByteArray)
structure aa(S:List Nat)(w w':World):Prop where
 os:w'.os=w.os
 tape:w'.tape=w.tape
 output:w'.output=w.output
 size:w.heap.size<=w'.heap.size
 block:∀k,k<w.heap.size->k∉S->w'.heap[k]?=w.heap[k]?
theorem aa.refl(S:List Nat)(w:World):aa S w w:=⟨rfl,rfl,rfl,Nat.le_refl _,fun _ _ _=>rfl⟩
theorem aa.trans{S:List Nat}{a b c:World}(h:aa S a b)(k:aa S b c):aa S a c :=
 ⟨k.os.trans h.os,k.tape.trans h.tape,k.output.trans h.output,Nat.le_trans h.size k.size,
  fun i hi hs=>(k.block i (Nat.lt_of_lt_of_le hi h.size) hs).trans (h.block i hi hs)⟩
theorem aa.mono{S S':List Nat}{w w':World}(h:aa S w w')(hS:∀k,k∈S->k<w.heap.size->k∈S'):aa S' w w' :=
 ⟨h.os,h.tape,h.output,h.size,fun k hk hn=>h.block k hk (fun hm=>hn (hS k hm hk))⟩
theorem aa.drew{S:List Nat}{a w:World}(h:aa S a w):aa S a w.drew:=⟨h.os,h.tape,h.output,h.size,h.block⟩
theorem aa.drewN{S:List Nat}{a w:World}(h:aa S a w)(n:Nat):aa S a (w.drewN n):=⟨h.os,h.tape,h.output,h.size,h.block⟩
theorem aa.alloc{S:List Nat}{a w:World}(h:aa S a w)(o:Obj):aa S a (w.alloc o) :=
 h.trans ⟨rfl,rfl,rfl,by simp,fun k hk _=>Below.heap_alloc _ _ _ hk⟩
theorem aa.setCell{S:List Nat}{a w:World}(h:aa S a w){p:Addr}(hp:p.block∈S∨a.heap.size<=p.block)(u:Value):aa S a (w.setCell p u) :=
 ⟨h.os,h.tape,h.output,by have:=h.size;simp[World.setCell];omega,fun k hk hs=>by
  rw[Below.heap_setCell _ _ _ _ (by rintro rfl;exact hp.elim hs (fun hp=>by omega))];exact h.block k hk hs⟩
theorem ab{w:World}{b t:Nat}{c:Array Value}(h:w.heap[b]?=some (.cells c t (0,0)))(i:Nat):w.cell? ⟨b,i,none⟩=c[i]?:=by
 unfold World.cell?;simp[h]
theorem an{w:World}{b t:Nat}{c:Array Value}(h:w.heap[b]?=some (.cells c t (0,0)))(i:Nat):w.frozen? ⟨b,i,none⟩=false:=by
 unfold World.frozen?;simp[h]
theorem ae{w:World}{b t:Nat}{c:Array Value}(h:w.heap[b]?=some (.cells c t (0,0)))(i:Nat)(u:Value) :
  (w.setCell ⟨b,i,none⟩ u).heap[b]?=some (.cells (c.setIfInBounds i u) t (0,0)):=by
 simp[World.setCell,Array.getElem?_modify,h]
theorem ac{w:World}{b:Nat}{o:Obj}(h:w.heap[b]?=some o):b<w.heap.size:=by
 rcases Nat.lt_or_ge b w.heap.size with h' | h'
 ·exact h'
 ·rw[Array.getElem?_eq_none h']at h;simp at h
theorem CD{P:Program}{f:FuncId}{args:Array Value}{w:World}{q x:Nat}{v:Value}(h:Calls P f args (w.drewN (q+x)) fun e w'=>e=.returned v/\w'=w.drewN (q+x)) :
  Calls P f args (w.drewN (q+x)) fun e w'=>e=.returned v/\∃n,w'=w.drewN (q+n) :=
 h.mono fun _ _ hh=>⟨hh.1,x,hh.2⟩
theorem GQ{a b:Bool}(h:a=b):Ending.returned (.bool a)=.returned (.bool b):=by rw[h]
theorem ar{k:IntKind}{a b:Int}(h:a=b):Ending.returned (.int k a)=.returned (.int k b):=by rw[h]
theorem bV{a b:ByteArray}(h:a.toList=b.toList):a=b:=by
 rw[ByteArray.toList_eq,ByteArray.toList_eq]at h
 cases a;cases b
 simp only[Array.toList_inj]at h;rw[h]
def cq(n:Int):Bool:=n==32||n==9||n==10||n==12||n==13
def gx(n:Int):Bool:=decide (33<=n)&&decide (n<=126)
theorem fV(n:Int)(w:World) :
  Calls Tryz.prog 137 #[.int .u8 n] w fun e w'=>e=.returned (.bool (cq n))/\w'=w:=by
 go_enter Tryz.func137,Tryz.ntmps137;go_wp2
 all_goals go_ret
 all_goals (refine⟨?_,rfl⟩;simp[cq, *])
theorem jP(n:Int)(w:World) :
  Calls Tryz.prog 140 #[.int .u8 n] w fun e w'=>e=.returned (.bool (gx n))/\w'=w:=by
 go_enter Tryz.func140,Tryz.ntmps140;go_wp2
 all_goals go_ret
 all_goals (refine⟨?_,rfl⟩;first | (simp[gx, *];done) | (simp[gx];omega))
def aw(d:ByteArray)(k:Nat):Int:=if h:k<d.size then((d[k]'h).toNat:Int) else 0
theorem aU(d:ByteArray)(k:Nat)(h:k<d.size):aw d k=((d[k]'h).toNat:Int):=by unfold aw;rw[dif_pos h]
def aD(d:ByteArray):Nat->Int
 | 0=>1
 | k+1=>if aw d k==10 then aD d k+1 else aD d k
def bb(d:ByteArray):Nat->Int
 | 0=>1
 | k+1=>if aw d k==10 then 1 else bb d k+1
theorem ou(d:ByteArray)(k:Nat):1<=aD d k/\aD d k<=k+1:=by
 induction k with
 | zero=>simp[aD]
 | succ k ih=>simp only[aD];split <;> omega
theorem Bx(d:ByteArray)(k:Nat):1<=bb d k/\bb d k<=k+1:=by
 induction k with
 | zero=>simp[bb]
 | succ k ih=>simp only[bb];split <;> omega
def ip(n d:ByteArray)(k:Nat):Array Value:=#[.string n,.string d,.int .i64 k,.int .i64 (aD d k),.int .i64 (bb d k)]
def bi(w:World)(b:Nat)(n d:ByteArray)(k:Nat):Prop:=w.heap[b]?=some (.cells (ip n d k) 204 (0,0))
theorem bi.cells{w:World}{b:Nat}{n d:ByteArray}{k:Nat}(h:bi w b n d k) :
  w.cell? ⟨b,0,none⟩=some (.string n)/\w.cell? ⟨b,1,none⟩=some (.string d)/\w.cell? ⟨b,2,none⟩=some (.int .i64 k) /\
  w.cell? ⟨b,3,none⟩=some (.int .i64 (aD d k))/\w.cell? ⟨b,4,none⟩=some (.int .i64 (bb d k)):=by
 refine⟨?_,?_,?_,?_,?_⟩ <;> (rw[ab h];rfl)
theorem bi.kept{w w':World}{b:Nat}{n d:ByteArray}{k:Nat}{S:List Nat}(h:bi w b n d k)(hk:aa S w w')(hb:b∉S):bi w' b n d k :=
 (hk.block b (ac h) hb).trans h
theorem aa.get{S:List Nat}{w w':World}(hk:aa S w w'){b:Nat}{o:Obj}(h:w.heap[b]?=some o)(hb:b∉S):w'.heap[b]?=some o :=
 (hk.block b (ac h) hb).trans h
theorem te{w:World}{b k:Nat}{n d:ByteArray}(h:bi w b n d k)(hk:k<d.size)(hb:((d[k].toNat:Int)==10)=true)(m:Nat) :
  bi (((((w.drewN m).setCell ⟨b,3,none⟩ (.int .i64 (aD d k+1))).setCell ⟨b,4,none⟩ (.int .i64 0)).setCell ⟨b,4,none⟩ (.int .i64 1)).setCell ⟨b,2,none⟩ (.int .i64 ((k:Int)+1))) b n d (k+1):=by
 have h0:(w.drewN m).heap[b]?=some (.cells (ip n d k) 204 (0,0)):=h;have h4:=ae (ae (ae (ae h0 3 (.int .i64 (aD d k+1))) 4 (.int .i64 0)) 4 (.int .i64 1)) 2 (.int .i64 ((k:Int)+1));unfold bi;rw[h4];simp[ip,aD,bb,aU d k hk,hb]
theorem oh{w:World}{b k:Nat}{n d:ByteArray}(h:bi w b n d k)(hk:k<d.size)(hb:((d[k].toNat:Int)==10)=false)(m:Nat) :
  bi (((w.drewN m).setCell ⟨b,4,none⟩ (.int .i64 (bb d k+1))).setCell ⟨b,2,none⟩ (.int .i64 ((k:Int)+1))) b n d (k+1):=by
 have h0:(w.drewN m).heap[b]?=some (.cells (ip n d k) 204 (0,0)):=h;have h4:=ae (ae h0 4 (.int .i64 (bb d k+1))) 2 (.int .i64 ((k:Int)+1));unfold bi;rw[h4];simp[ip,aD,bb,aU d k hk,hb]
theorem vc(b k:Nat)(n d:ByteArray)(w:World)(hd:d.size<=1024)(hk:k<d.size)(h:bi w b n d k) :
  Calls Tryz.prog 138 #[.pointer (some ⟨b,0,none⟩)] w fun e w'=>e=.returned (.tuple #[])/\bi w' b n d (k+1)/\aa [b] w w':=by
 obtain⟨c0,c1,c2,c3,c4⟩:=h.cells;have f2:=an h 2;have f3:=an h 3;have f4:=an h 4;have bl:=ou d k;have bc:=Bx d k;go_enter Tryz.func138,Tryz.ntmps138;go_wp2
 go_quiet (fail)
 go_wp2
 go_quiet (fail)
 go_wp2
 all_goals go_end0
 all_goals refine⟨rfl,?_,?_⟩
 ·exact te h hk (by assumption) _
 ·exact((((((aa.refl _ _).drewN _).setCell (Or.inl (by simp)) _).setCell (Or.inl (by simp)) _).setCell (Or.inl (by simp)) _).setCell (Or.inl (by simp)) _)
 ·exact oh h hk (by assumption) _
 ·exact((((aa.refl _ _).drewN _).setCell (Or.inl (by simp)) _).setCell (Or.inl (by simp)) _)
theorem rE(b k:Nat)(n d:ByteArray)(w:World)(h:bi w b n d k) :
  Calls Tryz.prog 139 #[.pointer (some ⟨b,0,none⟩)] w fun e w'=>e=.returned (.agg #[.string n,.int .i64 (aD d k),.int .i64 (bb d k)])/\aa [] w w':=by
 obtain⟨c0,c1,c2,c3,c4⟩:=h.cells;have hb:=ac h;go_enter Tryz.func139,Tryz.ntmps139;go_wp2
 go_region
 all_goals go_wp2
 exact bodyPost_ret (v:=.agg #[.string n,.int .i64 (aD d k),.int .i64 (bb d k)]) (by simp[results,Tryz.results139,go_sem]) rfl ⟨rfl,((aa.refl _ _).alloc _).drew⟩
def kG(d:ByteArray):Nat->Nat->Nat
 | 0,k=>k
 | f+1,k=>if k<d.size/\cq (aw d k)=true then kG d f (k+1) else k
def skip(d:ByteArray)(k:Nat):Nat:=kG d (d.size-k) k
def iG(d:ByteArray):Nat->Nat->Nat
 | 0,k=>k
 | f+1,k=>if k<d.size/\cq (aw d k)=false/\gx (aw d k)=true then iG d f (k+1) else k
def aW(d:ByteArray)(k:Nat):Nat:=iG d (d.size-k) k
theorem lj(d:ByteArray)(k:Nat)(h:k<d.size)(hb:cq (aw d k)=true):skip d k=skip d (k+1):=by
 unfold skip;rw[show d.size-k=(d.size-(k+1))+1 by omega];rw[kG,if_pos ⟨h,hb⟩]
theorem iF(d:ByteArray)(k:Nat)(h:¬(k<d.size/\cq (aw d k)=true)):skip d k=k:=by
 unfold skip
 cases d.size-k with
 | zero=>rfl
 | succ f=>rw[kG,if_neg h]
theorem tp(d:ByteArray)(k:Nat)(h:k<d.size)(hb:cq (aw d k)=false)(hp:gx (aw d k)=true):aW d k=aW d (k+1):=by
 unfold aW;rw[show d.size-k=(d.size-(k+1))+1 by omega];rw[iG,if_pos ⟨h,hb,hp⟩]
theorem iH(d:ByteArray)(k:Nat)(h:¬(k<d.size/\cq (aw d k)=false/\gx (aw d k)=true)):aW d k=k:=by
 unfold aW
 cases d.size-k with
 | zero=>rfl
 | succ f=>rw[iG,if_neg h]
theorem rO(d:ByteArray)(f k:Nat):k<=kG d f k/\(k<=d.size->kG d f k<=d.size):=by
 induction f generalizing k with
 | zero=>simp[kG]
 | succ f ih =>
  rw[kG];split
  ·have:=ih (k+1);omega
  ·omega
theorem rV(d:ByteArray)(f k:Nat):k<=iG d f k/\(k<=d.size->iG d f k<=d.size):=by
 induction f generalizing k with
 | zero=>simp[iG]
 | succ f ih =>
  rw[iG];split
  ·have:=ih (k+1);omega
  ·omega
theorem iY(d:ByteArray)(k:Nat)(h:k<=d.size):k<=skip d k/\skip d k<=d.size:=⟨(rO d _ k).1,(rO d _ k).2 h⟩
theorem fR(d:ByteArray)(k:Nat)(h:k<=d.size):k<=aW d k/\aW d k<=d.size:=⟨(rV d _ k).1,(rV d _ k).2 h⟩
structure lY where
 text:ByteArray
 rule:Int
 fin:Bool
 pos:Nat
def dq(n d:ByteArray)(i:lY):Value:=.agg #[.string i.text,.int .i64 i.rule,.bool i.fin,.string n,.int .i64 (aD d i.pos),.int .i64 (bb d i.pos)]
def aH(d:ByteArray)(k:Nat):lY×Nat :=
 let a:=skip d k
 let z:=aW d a
 if z<d.size/\cq (aw d z)=false then(⟨⟨#[]⟩,1,false,z⟩,z)
 else if z<=a then(⟨⟨#[]⟩,0,true,a⟩,z)
 else(⟨d.extract a z,0,false,a⟩,z)
theorem CR(d:ByteArray)(k j z:Nat)(hj:j=skip d k)(hw:aW d z=aW d j)(hz:z<d.size)(hb:cq (aw d z)=false)(hp:gx (aw d z)=false) :
  aH d k=(⟨⟨#[]⟩,1,false,z⟩,z):=by
 have e:aW d (skip d k)=z:=by rw[<-hj,<-hw];exact iH d z (fun h=>by simp[hp]at h)
 simp only[aH,e];rw[if_pos ⟨hz,hb⟩]
theorem CS(d:ByteArray)(k j z:Nat)(hj:j=skip d k)(hw:aW d z=aW d j)(hs:¬(z<d.size/\cq (aw d z)=false))(hz:z<=j) :
  aH d k=(⟨⟨#[]⟩,0,true,j⟩,z):=by
 have e:aW d (skip d k)=z:=by rw[<-hj,<-hw];exact iH d z (fun h=>hs ⟨h.1,h.2.1⟩)
 simp only[aH,e];rw[if_neg hs,<-hj,if_pos hz]
theorem Af(d:ByteArray)(k j z:Nat)(hj:j=skip d k)(hw:aW d z=aW d j)(hs:¬(z<d.size/\cq (aw d z)=false))(hz:j<z) :
  aH d k=(⟨d.extract j z,0,false,j⟩,z):=by
 have e:aW d (skip d k)=z:=by rw[<-hj,<-hw];exact iH d z (fun h=>hs ⟨h.1,h.2.1⟩)
 simp only[aH,e];rw[if_neg hs,<-hj,if_neg (by omega)]
theorem AT(d:ByteArray)(z:Nat) :
  (∃h:z<d.size,cq ((d[z]'h).toNat:Int)=false/\gx ((d[z]'h).toNat:Int)=true/\aW d (z+1)=aW d z) ∨
  (∃h:z<d.size,cq ((d[z]'h).toNat:Int)=false/\gx ((d[z]'h).toNat:Int)=false) ∨
  (∃h:z<d.size,cq ((d[z]'h).toNat:Int)=true)∨(¬z<d.size/\decide ((z:Int)<(d.size:Int))=false):=by
 by_cases h:z<d.size
 ·have e:=aU d z h
  cases hb:cq (aw d z) with
  | true=>exact Or.inr (Or.inr (Or.inl ⟨h,e ▸ hb⟩))
  | false =>
   cases hp:gx (aw d z) with
   | true=>exact Or.inl ⟨h,e ▸ hb,e ▸ hp,(tp d z h hb hp).symm⟩
   | false=>exact Or.inr (Or.inl ⟨h,e ▸ hb,e ▸ hp⟩)
 ·exact Or.inr (Or.inr (Or.inr ⟨h,by simp;omega⟩))
def jn(n:Int):Bool:=decide (33<=n)&&decide (n<=126) && !(n==36)
def gQ(s:ByteArray):Bool:=decide (1<=s.size)&&decide (s.size<=8)&&(List.range s.size).all (fun i=>jn (aw s i))
def fq(n d:ByteArray):Int:=if gQ n=false then 2 else if 1024<d.size then 3 else 0
theorem mw(s:ByteArray)(h:s.size<1∨8<s.size):gQ s=false:=by
  unfold gQ
  rcases h with h | h
  · simp[show ¬1<=s.size by omega]
  · simp[show ¬s.size<=8 by omega]
theorem wg(s:ByteArray)(i:Nat)(h:i<s.size)(hb:jn (aw s i)=false):gQ s=false:=by
  unfold gQ
  have:(List.range s.size).all (fun i=>jn (aw s i))=false:=by
    rw[List.all_eq_false];exact⟨i,by simp[h],by simp[hb]⟩
  simp[this]
theorem uh(s:ByteArray)(h1:1<=s.size)(h2:s.size<=8)(h:∀i,i<s.size->jn (aw s i)=true):gQ s=true:=by
  unfold gQ
  have:(List.range s.size).all (fun i=>jn (aw s i))=true:=by
    rw[List.all_eq_true];intro i hi;exact h i (by simpa using hi)
  simp[this,h1,h2]
theorem lJ(s:ByteArray)(w:World)(hs:s.size<=1073741824) :
    Calls Tryz.prog 90 #[.string s] w fun e w'=>e=.returned (.bool (gQ s))/\w'=w:=by
  by_cases h1:1<=s.size
  · by_cases h2:s.size<=8
    · go_enter Tryz.func90,Tryz.ntmps90
      go_wp2
      go_loopg [3] s.size (fun g i wr=>∃k:Nat,k<=s.size/\g=s.size-k/\i=.int .i64 k/\Hid (∀i,i<k->jn (aw s i)=true)/\wr=w)
      case atStart=>exact⟨0,by omega,by omega,rfl,fun i h=>by omega,rfl⟩
      case round =>
        obtain⟨k,hk,hg,rfl,hall,rfl⟩:=hrel
        by_cases hlt:k<s.size
        · have hq:∀b:Bool,jn (s[k].toNat:Int)=b->jn (aw s k)=b:=fun b h=>by rw[aU s k hlt];exact h
          have HQ:Hid (∀b:Bool,jn (s[k].toNat:Int)=b->jn (aw s k)=b):=hq;clear hq;go_wp2
          all_goals first
            | (go_ret;refine⟨GQ ?_,rfl⟩;rw[wg s k hlt (HQ.out false ?_)];first | (simp[jn];omega) | (simp[jn];simp at *;omega))
            | (go_roundg (s.size-(k+1))
               case measure=>omega
               case rel =>
                 refine⟨k+1,by omega,rfl,by go_num,?_,rfl⟩;intro i hi
                 by_cases e:i=k
                 · subst e;exact HQ.out true (by simp[jn];simp at *;omega)
                 · exact hall.out i (by omega))
        · go_wp2
          go_ret;exact⟨GQ (uh s h1 h2 (fun i hi=>hall.out i (by omega))).symm,rfl⟩
    · go_enter Tryz.func90,Tryz.ntmps90
      go_wp2
      all_goals go_ret
      all_goals exact⟨GQ (mw s (Or.inr (by omega))).symm,rfl⟩
  · go_enter Tryz.func90,Tryz.ntmps90
    go_wp2
    all_goals go_ret
    all_goals exact⟨GQ (mw s (Or.inl (by omega))).symm,rfl⟩
theorem kP(n d:ByteArray)(w:World)(hn:n.size<=1073741824)(hd:d.size<=4294967296) :
    Calls Tryz.prog 74 #[.string n,.string d] w fun e w'=>e=.returned (.int .i64 (fq n d))/\w'=w:=by
  cases hb:gQ n
  · go_enter Tryz.func74,Tryz.ntmps74
    go_wp2_with fail;refine(lJ n _ hn).mono ?_;rintro e w1 ⟨rfl,rfl⟩;go_wp2;go_ret;exact⟨ar (by simp[fq,hb]),rfl⟩
  · by_cases hl:1024<d.size
    · go_enter Tryz.func74,Tryz.ntmps74
      go_wp2_with fail;refine(lJ n _ hn).mono ?_;rintro e w1 ⟨rfl,rfl⟩;go_wp2;go_ret;exact⟨ar (by simp[fq,hb,hl]),rfl⟩
    · go_enter Tryz.func74,Tryz.ntmps74
      go_wp2_with fail;refine(lJ n _ hn).mono ?_;rintro e w1 ⟨rfl,rfl⟩;go_wp2;go_ret;exact⟨ar (by simp[fq,hb,hl]),rfl⟩
def bn(fs:Fs)(i:Nat):ByteArray:=(fs.getD i (⟨#[]⟩,⟨#[]⟩)).1
def aj(fs:Fs)(i:Nat):ByteArray:=(fs.getD i (⟨#[]⟩,⟨#[]⟩)).2
def mQ(fs:Fs):List Value :=
  [.string (bn fs 0),.string (aj fs 0),.string (bn fs 1),.string (aj fs 1),.string (bn fs 2),.string (aj fs 2),.string (bn fs 3),.string (aj fs 3),.int .i64 fs.length]
def bz(w:World)(v t:Nat)(fs:Fs)(more:List Value):Prop:=w.heap[v]?=some (.cells (mQ fs++more).toArray t (0,0))/\fs.length<=4
theorem bz.name{w:World}{v t:Nat}{fs:Fs}{more:List Value}(h:bz w v t fs more)(i:Nat)(hi:i<4) :
    w.cell? ⟨v,i*2,none⟩=some (.string (bn fs i))/\w.cell? ⟨v,i*2+1,none⟩=some (.string (aj fs i)):=by
  constructor <;> rw[ab h.1]
  · match i,hi with
    | 0,_=>rfl
    | 1,_=>rfl
    | 2,_=>rfl
    | 3,_=>rfl
  · match i,hi with
    | 0,_=>rfl
    | 1,_=>rfl
    | 2,_=>rfl
    | 3,_=>rfl
theorem bz.count{w:World}{v t:Nat}{fs:Fs}{more:List Value}(h:bz w v t fs more) :
    w.cell? ⟨v,8,none⟩=some (.int .i64 fs.length):=by
  rw[ab h.1];rfl
def bD(n:ByteArray):Fs->Nat->Int
  | [],_=>-1
  | f :: r,i=>if(f.1.toList==n.toList)=true then i else bD n r (i+1)
def de(fs:Fs)(n:ByteArray):Int:=bD n fs 0
theorem xQ{α:Type}(l:List α)(k:Nat)(h:k<l.length):l.drop k=l[k] :: l.drop (k+1):=List.drop_eq_getElem_cons h
theorem re(fs:Fs)(k:Nat)(h:k<fs.length):bn fs k=fs[k].1:=by
  unfold bn;rw[List.getD_eq_getElem?_getD,List.getElem?_eq_getElem h];rfl
theorem BH(fs:Fs)(n:ByteArray)(k:Nat)(h:k<fs.length)(he:de fs n=bD n (fs.drop k) k)(hb:((bn fs k).toList==n.toList)=true):de fs n=k:=by
  rw[he,xQ _ _ h,bD,<-re fs k h,if_pos hb]
theorem yY(fs:Fs)(n:ByteArray)(k:Nat)(h:k<fs.length)(he:de fs n=bD n (fs.drop k) k)(hb:((bn fs k).toList==n.toList)=false):de fs n=bD n (fs.drop (k+1)) (k+1):=by
  rw[he,xQ _ _ h,bD,<-re fs k h,if_neg (by simp[hb])]
theorem yZ(fs:Fs)(n:ByteArray)(k:Nat)(h:¬k<fs.length)(he:de fs n=bD n (fs.drop k) k):de fs n=-1:=by
  rw[he,List.drop_of_length_le (by omega),bD]
theorem ji(v t:Nat)(fs:Fs)(more:List Value)(n:ByteArray)(w:World)(h:bz w v t fs more) :
    Calls Tryz.prog 41 #[.pointer (some ⟨v,0,none⟩),.string n] w fun e w'=>e=.returned (.int .i64 (de fs n))/\w'=w:=by
  have hcnt:=h.count;have hlen:=h.2;go_enter Tryz.func41,Tryz.ntmps41;go_wp2
  go_loopg [5] fs.length (fun g i wr=>∃k:Nat,k<=fs.length/\g=fs.length-k/\i=.int .i64 k/\Hid (de fs n=bD n (fs.drop k) k)/\wr=w)
  case atStart=>exact⟨0,by omega,by omega,rfl,rfl,rfl⟩
  case round =>
    obtain⟨k,hk,hg,rfl,hall,rfl⟩:=hrel
    by_cases hlt:k<fs.length
    · obtain⟨q0,q1⟩:=h.name k (by omega)
      cases hb:((bn fs k).toList==n.toList)
      · have HM:Hid (de fs n=bD n (fs.drop (k+1)) (k+1)):=yY fs n k hlt hall.out hb
        clear hall;go_wp2
        go_roundg (fs.length-(k+1))
        case measure=>omega
        case rel=>exact⟨k+1,by omega,rfl,by go_num,HM,rfl⟩
      · have HM:Hid (de fs n=k):=BH fs n k hlt hall.out hb
        clear hall;go_wp2;go_ret;exact⟨ar HM.out.symm,rfl⟩
    · have HM:Hid (de fs n=-1):=yZ fs n k hlt hall.out
      clear hall;go_wp2;go_ret;exact⟨ar HM.out.symm,rfl⟩
theorem bz.free{w:World}{v t:Nat}{fs:Fs}{more:List Value}(h:bz w v t fs more)(i:Nat):w.frozen? ⟨v,i,none⟩=false:=an h.1 i
theorem bz.kept{w w':World}{v t:Nat}{fs:Fs}{more:List Value}{S:List Nat}(h:bz w v t fs more)(hk:aa S w w')(hv:v∉S):bz w' v t fs more :=
 ⟨hk.get h.1 hv,h.2⟩
theorem bz.lt{w:World}{v t:Nat}{fs:Fs}{more:List Value}(h:bz w v t fs more):v<w.heap.size:=ac h.1
theorem BE(v t k:Nat)(fs:Fs)(more:List Value)(w:World)(h:bz w v t fs more)(hk:k<fs.length) :
  Calls Tryz.prog 102 #[.pointer (some ⟨v,0,none⟩),.int .i64 k] w fun e w'=>e=.returned (.agg #[.string (bn fs k),.string (aj fs k)])/\aa [] w w':=by
 have hcnt:=h.count;have hlen:=h.2;have hlt:=h.lt;obtain⟨q0,q1⟩:=h.name k (by omega);go_enter Tryz.func102,Tryz.ntmps102;go_wp2;exact bodyPost_ret (v:=.agg #[.string (bn fs k),.string (aj fs k)]) (by simp[results,Tryz.results102,go_sem]) rfl ⟨rfl,(aa.refl _ _).alloc _⟩
theorem EK(fs:Fs)(more:List Value)(n d:ByteArray)(h:fs.length<4) :
  (((mQ fs++more).set (fs.length*2) (.string n)).set (fs.length*2+1) (.string d)).set 8 (.int .i64 ((fs.length:Int)+1))=mQ (fs++[(n,d)])++more:=by
 match fs,h with
 | [],_=>rfl
 | [a],_=>rfl
 | [a,b],_=>rfl
 | [a,b,c],_=>rfl
theorem EL(fs:Fs)(more:List Value)(n d:ByteArray)(k:Nat)(hk:k<fs.length)(h:fs.length<=4) :
  ((mQ fs++more).set (k*2) (.string n)).set (k*2+1) (.string d)=mQ (fs.set k (n,d))++more:=by
 match fs,h,k,hk with
 | [a],_,0,_=>rfl
 | [a,b],_,0,_=>rfl
 | [a,b],_,1,_=>rfl
 | [a,b,c],_,0,_=>rfl
 | [a,b,c],_,1,_=>rfl
 | [a,b,c],_,2,_=>rfl
 | [a,b,c,e],_,0,_=>rfl
 | [a,b,c,e],_,1,_=>rfl
 | [a,b,c,e],_,2,_=>rfl
 | [a,b,c,e],_,3,_=>rfl
theorem bz.added{w:World}{v t:Nat}{fs:Fs}{more:List Value}(h:bz w v t fs more)(n d:ByteArray)(hk:fs.length<4) :
  bz (((w.setCell ⟨v,fs.length*2,none⟩ (.string n)).setCell ⟨v,fs.length*2+1,none⟩ (.string d)).setCell ⟨v,8,none⟩ (.int .i64 ((fs.length:Int)+1))) v t (fs++[(n,d)]) more:=by
 have h4:=ae (ae (ae h.1 (fs.length*2) (.string n)) (fs.length*2+1) (.string d)) 8 (.int .i64 ((fs.length:Int)+1));refine⟨?_,by simp;omega⟩;rw[h4];simp only[List.setIfInBounds_toArray,EK fs more n d hk]
theorem bz.turned{w:World}{v t:Nat}{fs:Fs}{more:List Value}(h:bz w v t fs more)(n d:ByteArray)(k:Nat)(hk:k<fs.length) :
  bz ((w.setCell ⟨v,k*2,none⟩ (.string n)).setCell ⟨v,k*2+1,none⟩ (.string d)) v t (fs.set k (n,d)) more:=by
 have h4:=ae (ae h.1 (k*2) (.string n)) (k*2+1) (.string d);refine⟨?_,by simpa using h.2⟩;rw[h4];simp only[List.setIfInBounds_toArray,EL fs more n d k hk h.2]
theorem DC(v t:Nat)(n d:ByteArray)(fs:Fs)(more:List Value)(w:World)(h:bz w v t fs more)(hk:fs.length<4) :
  Calls Tryz.prog 75 #[.pointer (some ⟨v,0,none⟩),.agg #[.string n,.string d]] w fun e w'=>e=.returned (.tuple #[])/\bz w' v t (fs++[(n,d)]) more/\aa [v] w w':=by
 have hcnt:=h.count;have hfr:=h.free;have hlt:=h.lt;obtain⟨q0,q1⟩:=h.name fs.length (by omega);go_enter Tryz.func75,Tryz.ntmps75;go_wp2
 go_region
 all_goals go_wp2
 all_goals go_end0
 exact⟨rfl,(h.added n d hk).kept ((aa.refl [] _).alloc _ |>.drew) (by simp),((((aa.refl _ _).setCell (Or.inl (by simp)) _).setCell (Or.inl (by simp)) _).setCell (Or.inl (by simp)) _).alloc _ |>.drew⟩
def g7(fs:Fs)(n d:ByteArray):Int×Fs :=
 if fq n d≠0 then(fq n d,fs)
 else if 0<=de fs n then(0,fs.set (de fs n).toNat (n,d))
 else if 4<=fs.length then(1,fs) else(0,fs++[(n,d)])
theorem tU(n:ByteArray)(fs:Fs)(i:Nat):bD n fs i=-1∨((i:Int)<=bD n fs i/\bD n fs i<i+fs.length):=by
 induction fs generalizing i with
 | nil=>exact Or.inl rfl
 | cons f r ih =>
  rw[bD];split
  ·exact Or.inr ⟨by omega,by simp;omega⟩
  ·rcases ih (i+1) with h | h
   ·exact Or.inl h
   ·exact Or.inr ⟨by omega,by simp;omega⟩
theorem tT(n:ByteArray)(fs:Fs):de fs n=-1∨∃k:Nat,k<fs.length/\de fs n=k:=by
 rcases tU n fs 0 with h | h
 ·exact Or.inl h
 ·refine Or.inr ⟨(de fs n).toNat,?_,?_⟩ <;> (unfold de;omega)
theorem EA(v t:Nat)(n d:ByteArray)(fs:Fs)(more:List Value)(w:World)(h:bz w v t fs more)(hn:n.size<=1073741824)(hd:d.size<=4294967296) :
  Calls Tryz.prog 39 #[.pointer (some ⟨v,0,none⟩),.string n,.string d] w fun e w'=>e=.returned (.int .i64 (g7 fs n d).1)/\bz w' v t (g7 fs n d).2 more/\aa [v] w w':=by
 have hcnt:=h.count;have hlt:=h.lt;have hlen:=h.2
 by_cases hc:fq n d=0
 ·rcases tT n fs with hf | ⟨k,hk,hf⟩
  ·by_cases hl:4<=fs.length
   ·have HP:Hid (g7 fs n d=(1,fs)):=by show g7 fs n d=_;simp[g7,hc,hf,hl]
    have HC:Hid (fq n d=0):=hc;have HFF:Hid (de fs n=-1):=hf;clear hc hf;go_enter Tryz.func39,Tryz.ntmps39;go_wp2_with fail;refine(kP n d _ hn hd).mono ?_;rintro e w1 ⟨rfl,rfl⟩;rw[HC.out];go_wp2_with fail;refine(ji v t fs more n _ (by exact h.kept ((aa.refl [] _).alloc _) (by simp))).mono ?_;rintro e w1 ⟨rfl,rfl⟩;rw[HFF.out];go_wp2;go_ret;exact⟨ar (by rw[HP.out]),by rw[HP.out];exact h.kept ((aa.refl [] _).alloc _) (by simp),(aa.refl _ _).alloc _⟩
   ·have HP:Hid (g7 fs n d=(0,fs++[(n,d)])):=by show g7 fs n d=_;simp[g7,hc,hf,hl]
    have HC:Hid (fq n d=0):=hc;have HFF:Hid (de fs n=-1):=hf;clear hc hf;go_enter Tryz.func39,Tryz.ntmps39;go_wp2_with fail;refine(kP n d _ hn hd).mono ?_;rintro e w1 ⟨rfl,rfl⟩;rw[HC.out];go_wp2_with fail;refine(ji v t fs more n _ (by exact h.kept ((aa.refl [] _).alloc _) (by simp))).mono ?_;rintro e w1 ⟨rfl,rfl⟩;rw[HFF.out];go_wp2_with fail;refine(DC v t n d fs more _ (by exact h.kept ((aa.refl [] _).alloc _) (by simp)) (by omega)).mono ?_;rintro e w2 ⟨rfl,h2,hk2⟩;go_wp2;go_ret;exact⟨ar (by rw[HP.out]),by rw[HP.out];exact h2,((aa.refl _ _).alloc _).trans hk2⟩
  ·have HP:Hid (g7 fs n d=(0,fs.set k (n,d))):=by show g7 fs n d=_;simp[g7,hc,hf]
   have HC:Hid (fq n d=0):=hc;have HFF:Hid (de fs n=k):=hf;obtain⟨q0,q1⟩:=h.name k (by omega);have hfr:=h.free;clear hc hf;go_enter Tryz.func39,Tryz.ntmps39;go_wp2_with fail;refine(kP n d _ hn hd).mono ?_;rintro e w1 ⟨rfl,rfl⟩;rw[HC.out];go_wp2_with fail;refine(ji v t fs more n _ (by exact h.kept ((aa.refl [] _).alloc _) (by simp))).mono ?_;rintro e w1 ⟨rfl,rfl⟩;rw[HFF.out];go_wp2_with fail
   go_region
   all_goals go_wp2
   all_goals go_ret
   exact⟨ar (by rw[HP.out]),by rw[HP.out];exact(h.turned n d k hk).kept ((aa.refl [] _).alloc _ |>.drew) (by simp),(((aa.refl _ _).setCell (Or.inl (by simp)) _).setCell (Or.inl (by simp)) _).alloc _ |>.drew⟩
 ·have HP:Hid (g7 fs n d=(fq n d,fs)):=by show g7 fs n d=_;simp[g7,hc]
  have hc':(fq n d != 0)=true:=by simp[hc]
  clear hc;go_enter Tryz.func39,Tryz.ntmps39;go_wp2_with fail;refine(kP n d _ hn hd).mono ?_;rintro e w1 ⟨rfl,rfl⟩;go_wp2;go_ret;exact⟨ar (by rw[HP.out]),by rw[HP.out];exact h,aa.refl _ _⟩
structure Hd where
 ao:Option Addr
 cap:Nat
def Hd.blk(h:Hd):Option Nat:=h.ao.map (·.block)
structure eI where
 e:TypeId
 size:Nat
 n:Nat
 xs:List Value
def au(w:World)(h:Hd)(r:eI):Prop:=w.ownsRow 0 r.e r.size (.slice h.ao r.n h.cap) r.n r.xs
theorem sM(h:Hd)(n:Nat):(Value.slice h.ao n h.cap).ownBlock=h.blk:=by
 unfold Hd.blk;cases h.ao <;> rfl
theorem au.lt{w:World}{h:Hd}{r:eI}(o:au w h r){k:Nat}(hk:h.blk=some k):k<w.heap.size :=
 (World.ownsRow.lt (h:=o) k (by rw[sM];exact hk)).2
theorem au.moved{w w':World}{h:Hd}{r:eI}(o:au w h r)(hw:∀k,h.blk=some k->w'.heap[k]?=w.heap[k]?):au w' h r:=by
 refine⟨o.1,?_⟩
 rcases o.2 with hn | ⟨g,cap,cur,hv,hb,hh,h1,h2,h3,h4⟩
 ·exact Or.inl hn
 ·refine Or.inr ⟨g,cap,cur,hv,hb,?_,h1,h2,h3,h4⟩
  rw[hw g (by unfold Hd.blk;injection hv with hv;rw[hv];rfl)];exact hh
theorem au.ways{w:World}{h:Hd}{r:eI}(o:au w h r) :
  (h=⟨none,0⟩/\r.n=0/\r.xs=[])∨∃g cur,h.ao=some ⟨g,0,none⟩/\w.heap[g]?=some (.cells cur r.e (0,0))/\r.n<=h.cap/\h.cap<=maxLen/\cur.size=h.cap*r.size/\cur.toList.take (r.n*r.size)=r.xs:=by
 rcases o.2 with ⟨hv,hn⟩ | ⟨g,cap,cur,hv,hb,hh,h1,h2,h3,h4⟩
 ·left
  injection hv with a1 a2 a3
  refine⟨by cases h;simp_all,hn,List.eq_nil_of_length_eq_zero (by rw[o.1,hn];simp)⟩
 ·right
  injection hv with a1 a2 a3
  subst a3;exact⟨g,cur,a1,hh,h1,h2,h3,h4⟩
theorem aV(g j:Nat):(⟨g,0,none⟩:Addr).add j=⟨g,j,none⟩:=by
 simp only[Addr.add]
 split
 ·next h=>subst h;rfl
 ·simp
theorem au.cell{w:World}{h:Hd}{r:eI}(o:au w h r){g:Nat}(hg:h.ao=some ⟨g,0,none⟩)(j:Nat)(u:Value)(hj:r.xs[j]?=some u):w.cell? ⟨g,j,none⟩=some u:=by
 have:=o.cells (g:=g) (by rw[sM];unfold Hd.blk;rw[hg];rfl) j u hj;rw[aV]at this;exact this
theorem ay{P:Program}(w:World){ops:Array Oper}{rest:List Oper}{o:Oper}{a:Act}{Q:Exit->Act->World->Prop}
  (hg:o.guard=none) (s x:Operand) (t:TypeId) (hop:o.op=Op.call { callee:=Callee.builtin Builtin.append,args:=#[s,x],argTypes:=#[t,t] })
  (i:TypeInfo) (z:Value) (bytes:Nat) (h:Hd) (r:eI) (h1:P.underlying t=some (.slice r.e)) (h2:P.info? r.e=some i) (h3:i.zero=some z) (h4:i.size=r.size) (h5:i.bytes=bytes) (h6:z.cells.size=r.size) (h7:0<r.size)
  (hs:a.eval s=.slice h.ao r.n h.cap) (hown:au w h r)
  (ad:Addr) (m c:Nat) (news:List Value) (hx:a.eval x=.slice (some ad) m c) (hn:news.length=m*r.size) (hc:∀j u,news[j]?=some u->w.cell? (ad.add j)=some u) (h1c:∀u∈news,u.oneCell'=true)
  (hm:0<m) (b1:r.n+m<=maxLen) (b2:(r.n+m)*bytes<=140737488355328)
  (hK:∀g cap' w',au w' ⟨some ⟨g,0,none⟩,cap'⟩ ⟨r.e,r.size,r.n+m,r.xs++news⟩->w.grownBy w' h.blk->(h.blk=some g∨w.heap.size<=g)->wpList P ops Q rest (a.put o.dst (.slice (some ⟨g,0,none⟩) (r.n+m) cap')) w') :
  wpList P ops Q (o :: rest) a w:=by
 rcases hown.ways with ⟨e1,e2,e3⟩ | ⟨g,cur,e1,e2,e3,e4,e5,e6⟩
 ·refine wpList_append_grows w hg s x t hop r.e i z r.size bytes h1 h2 h3 h4 h5 h6 h7 none 0 0 [] (by rw[hs,e1,e2]) (fun _=>⟨rfl,rfl⟩) (by simp) (by intro b hb;cases hb) ad m c news hx hn hc h1c (by omega) (by omega) (by rw[e2]at b2;exact b2) ?_
  intro v' w' hw hgr
  rcases hw.2 with ⟨_,q⟩ | ⟨g,cap',cur,q1,q2,q3,q4,q5,q6,q7⟩
  ·omega
  ·have:=hK g cap' w' ⟨by have:=hw.1;simpa [e3,e2] using this,Or.inr ⟨g,cap',cur,by simp,Nat.zero_le _,q3,by simpa [e2] using q4,q5,q6,by simpa [e2,e3] using q7⟩⟩ (by rw[e1];exact hgr) (Or.inr q2)
   rw[q1];simpa [e2] using this
 ·by_cases hf:r.n+m<=h.cap
  ·refine wpList_append_fits w hg s x t hop 0 r.e i r.size h1 h2 h4 g r.n h.cap r.xs (by rw[hs,e1]) (by have:=hown;unfold au at this;rw[e1]at this;exact this) ad m c news hx hn hc h1c hf ?_
   intro w' hw hgr;exact hK g h.cap w' hw (by unfold Hd.blk;rw[e1];exact hgr) (Or.inl (by unfold Hd.blk;rw[e1];rfl))
  ·refine wpList_append_grows w hg s x t hop r.e i z r.size bytes h1 h2 h3 h4 h5 h6 h7 (some ⟨g,0,none⟩) r.n h.cap r.xs (by rw[hs,e1]) (by intro hh;cases hh) hown.1 (by intro b hb j u hj;cases hb;rw[aV];exact hown.cell e1 j u hj) ad m c news hx hn hc h1c (by omega) b1 b2 ?_
   intro v' w' hw hgr
   rcases hw.2 with ⟨_,q⟩ | ⟨g',cap',cur',q1,q2,q3,q4,q5,q6,q7⟩
   ·omega
   ·have:=hK g' cap' w' ⟨hw.1,Or.inr ⟨g',cap',cur',rfl,Nat.zero_le _,q3,q4,q5,q6,q7⟩⟩ ⟨hgr.os,hgr.tape,hgr.output,hgr.size,fun k hk _=>hgr.block k hk (by simp)⟩ (Or.inr q2)
    rw[q1];exact this
theorem qJ{P:Program}(w:World)(dT sT ty elem:TypeId)(g cap size:Nat)(h:Hd)(r:eI)(cur:Array Value)(t:TypeId)
  (hu:P.underlying dT=some (.slice elem)) (hs:(P.info? elem).map (·.size)=some size) (hr:r.size=size) (hg:w.heap[g]?=some (.cells cur t (0,0))) (ho:au w h r) (hsz:cur.size=r.n*size) (h1:∀v∈r.xs,v.oneCell'=true) :
  (Builtin.copy_ #[dT,sT] ty #[.slice (some ⟨g,0,none⟩) r.n cap,.slice h.ao r.n h.cap]).run P w=.ok (goInt r.n) (w.setRow g r.xs.toArray):=by
 have hl:r.xs.length=r.n*size:=by have:=ho.1;rw[hr]at this;exact this
 have hst:=run_storeCells_at P g 0 t r.xs 0 cur w hg (by simp;omega) h1
 have e0:(cur.toList.take (0+0)++r.xs++cur.toList.drop (0+0+r.xs.length))=r.xs:=by
  simp;omega
 rw[e0]at hst
 have hfc:(Builtin.firstCells size r.n (.slice h.ao r.n h.cap)).run P w=.ok r.xs.toArray w:=by
  rcases ho.ways with ⟨e1,e2,e3⟩ | ⟨g',cur',e1,_⟩
  ·rw[e1,e3];exact run_firstCells_none w _ _ _ _
  ·rw[e1];exact run_firstCells_some w size r.n ⟨g',0,none⟩ r.n h.cap r.xs hl (fun j v hj=>by rw[aV];exact ho.cell e1 j v hj)
 cases hq:P.info? elem with
 | none=>simp[hq]at hs
 | some i =>
  have hi:i.size=size:=by simpa [hq] using hs
  simp[Builtin.copy_,run_underlying hu,Builtin.lenOf,sizeOf,typeInfo,hq,hi,hfc,hst]
theorem ui{S:List Nat}{a w:World}(h:aa S a w){g:Nat}(hp:g∈S∨a.heap.size<=g)(c:Array Value):aa S a (w.setRow g c) :=
 ⟨h.os,h.tape,h.output,by have:=h.size;simp[World.setRow];omega,fun k hk hs=>by
  rw[setRow_other w g k c (by rintro rfl;exact hp.elim hs (fun hp=>by omega))];exact h.block k hk hs⟩
theorem jf{P:Program}(w:World)(dT sT ty:TypeId)(g cap:Nat)(h:Hd)(r:eI)(cur:Array Value)(t:TypeId)
  (hu:P.underlying dT=some (.slice r.e)) (hs:(P.info? r.e).map (·.size)=some r.size) (hg:w.heap[g]?=some (.cells cur t (0,0))) (ho:au w h r) (hsz:cur.size=r.n*r.size) (h1:∀v∈r.xs,v.oneCell'=true) :
  ∃w',(Builtin.copy_ #[dT,sT] ty #[.slice (some ⟨g,0,none⟩) r.n cap,.slice h.ao r.n h.cap]).run P w=.ok (goInt r.n) w'/\w'.heap[g]?=some (.cells r.xs.toArray t (0,0))/\aa [g] w w'/\w'.heap.size=w.heap.size :=
 ⟨_,qJ (P:=P) w dT sT ty r.e g cap r.size h r cur t hu hs rfl hg ho hsz h1,setRow_heap w g _ _ t _ hg,ui (aa.refl _ _) (Or.inl (by simp)) _,by simp[World.setRow]⟩
theorem au.made{w:World}{g:Nat}{r:eI}(hg:w.heap[g]?=some (.cells r.xs.toArray r.e (0,0)))(hl:r.xs.length=r.n*r.size)(hn:r.n<=maxLen):au w ⟨some ⟨g,0,none⟩,r.n⟩ r :=
 ⟨hl,Or.inr ⟨g,r.n,r.xs.toArray,rfl,Nat.zero_le _,hg,Nat.le_refl _,hn,by simpa using hl,by simp[<-hl]⟩⟩
theorem kF{P:Program}(w:World)(t ty:TypeId)(i:TypeInfo)(z:Value)(bytes:Nat)(h:Hd)(r:eI)(h1:P.underlying t=some (.slice r.e))(h2:P.info? r.e=some i)(h3:i.zero=some z)(h4:i.size=r.size)(h5:i.bytes=bytes)(h6:z.cells.size=r.size)(h7:0<r.size)
  (hown:au w h r) (ad:Addr) (m c:Nat) (news:List Value) (hn:news.length=m*r.size) (hc:∀j u,news[j]?=some u->w.cell? (ad.add j)=some u) (h1c:∀u∈news,u.oneCell'=true)
  (hm:0<m) (b1:r.n+m<=maxLen) (b2:(r.n+m)*bytes<=140737488355328) :
  ∃g cap' w',(Builtin.append_ #[t,t] ty #[.slice h.ao r.n h.cap,.slice (some ad) m c]).run P w=.ok (.slice (some ⟨g,0,none⟩) (r.n+m) cap') w' /\
   au w' ⟨some ⟨g,0,none⟩,cap'⟩ ⟨r.e,r.size,r.n+m,r.xs++news⟩/\w.grownBy w' h.blk/\(h.blk=some g∨w.heap.size<=g):=by
 rcases hown.ways with ⟨e1,e2,e3⟩ | ⟨g,cur,e1,e2,e3,e4,e5,e6⟩
 ·obtain⟨v',w',hrun,hw,hgr,_⟩:=run_append_own (P:=P) w w.heap.size t ty r.e i z r.size bytes h1 h2 h3 h4 h5 h6 h7 (.slice none 0 0) 0 [] (World.ownsRow_nil w _ r.e r.size) ad m c news hn hc h1c (by omega) (by rw[e2]at b2;exact b2) (Nat.le_refl _)
  rcases hw.2 with ⟨_,q⟩ | ⟨g,cap',cur,q1,q2,q3,q4,q5,q6,q7⟩
  ·omega
  ·refine⟨g,cap',w',?_,⟨by have:=hw.1;simpa [e3,e2] using this,Or.inr ⟨g,cap',cur,by simp,Nat.zero_le _,q3,by simpa [e2] using q4,q5,q6,by simpa [e2,e3] using q7⟩⟩,?_,Or.inr q2⟩
   ·rw[e1,e2,hrun,q1]
   ·rw[e1];exact hgr
 ·by_cases hf:r.n+m<=h.cap
  ·obtain⟨w',hrun,hw,hgr⟩:=run_append_fits (P:=P) w 0 t ty r.e i r.size h1 h2 h4 g r.n h.cap r.xs (by have:=hown;unfold au at this;rw[e1]at this;exact this) ad m c news hn hc h1c hf
   exact⟨g,h.cap,w',by rw[e1,hrun],hw,by unfold Hd.blk;rw[e1];exact hgr,Or.inl (by unfold Hd.blk;rw[e1];rfl)⟩
  ·obtain⟨v',w',hrun,hw,hgr⟩:=run_append_arg_grows (P:=P) w t ty r.e i z r.size bytes h1 h2 h3 h4 h5 h6 h7 ⟨g,0,none⟩ r.n h.cap r.xs hown.1 (by intro j u hj;rw[aV];exact hown.cell e1 j u hj) ad m c news hn hc (by omega) b1 b2
   rcases hw.2 with ⟨_,q⟩ | ⟨g',cap',cur',q1,q2,q3,q4,q5,q6,q7⟩
   ·omega
   ·exact⟨g',cap',w',by rw[e1,hrun,q1],⟨hw.1,Or.inr ⟨g',cap',cur',rfl,Nat.zero_le _,q3,q4,q5,q6,q7⟩⟩,⟨hgr.os,hgr.tape,hgr.output,hgr.size,fun k hk _=>hgr.block k hk (by simp)⟩,Or.inr q2⟩
theorem aC{P:Program}{ops:Array Oper}{o:Oper}{a:Act}{w:World}{K:Act->World->Prop}{Q:Exit->Act->World->Prop}{E:Prop}
  (hg:o.guard=none) (s x:Operand) (t:TypeId) (hop:o.op=Op.call { callee:=Callee.builtin Builtin.append,args:=#[s,x],argTypes:=#[t,t] })
  (i:TypeInfo) (z:Value) (bytes:Nat) (h:Hd) (r:eI) (h1:P.underlying t=some (.slice r.e)) (h2:P.info? r.e=some i) (h3:i.zero=some z) (h4:i.size=r.size) (h5:i.bytes=bytes) (h6:z.cells.size=r.size) (h7:0<r.size)
  (hs:a.eval s=.slice h.ao r.n h.cap) (hown:au w h r)
  (ad:Addr) (m c:Nat) (news:List Value) (hx:a.eval x=.slice (some ad) m c) (hn:news.length=m*r.size) (hc:∀j u,news[j]?=some u->w.cell? (ad.add j)=some u) (h1c:∀u∈news,u.oneCell'=true)
  (hm:0<m) (b1:r.n+m<=maxLen) (b2:(r.n+m)*bytes<=140737488355328)
  (hK:∀g cap' w',au w' ⟨some ⟨g,0,none⟩,cap'⟩ ⟨r.e,r.size,r.n+m,r.xs++news⟩->w.grownBy w' h.blk->(h.blk=some g∨w.heap.size<=g)->K (a.put o.dst (.slice (some ⟨g,0,none⟩) (r.n+m) cap')) w') :
  if Region.wanted o (yielded ops a.tmps)=true then Oper.wp P o a w K Q else E:=by
 have hw:Region.wanted o (yielded ops a.tmps)=true:=by simp[Region.wanted,hg]
 rw[if_pos hw];obtain⟨g,cap',w',hrun,r1,r2,r3⟩:=kF (P:=P) w t o.type i z bytes h r h1 h2 h3 h4 h5 h6 h7 hown ad m c news hn hc h1c hm b1 b2;unfold Oper.wp;simp[execOp,hop,resolve,invoke,builtin,hs,hx,hrun,Result.andThen];exact hK g cap' w' r1 r2 r3
theorem cA{P:Program}(w:World)(t e:TypeId)(i:TypeInfo)(z:Value)(ht:P.underlying t=some (.slice e))(hi:P.info? e=some i)(hz:i.zero=some z)(n size:Nat)(hsz:i.size=size)(hb:i.bytes*n<=281474976710656)(hn:n<=1073741824) :
  (Instr.makeSlice t (.int .i64 n) (.int .i64 n)).run P w=.ok (.slice (some ⟨w.heap.size,0,none⟩) n n) (w.alloc (.cells (madeCells z.cells (n*size)) e)):=by
 have:=run_make (P:=P) w t e i z ht hi hz .i64 .i64 n n (by omega) (Int.le_refl _) (by have:=Int.ofNat_le.2 hb;rw[Int.natCast_mul]at this;exact this) (by omega);simpa [hsz] using this
def iR(w:World)(x:Nat)(fs:Fs)(rep:Bool)(a b c:Value):Prop:=bz w x 96 fs [.bool rep,a,b,c]
def El:Value:=.slice none 0 0
def fp(w:World)(x:Nat)(fs:Fs):Prop:=iR w x fs false El El El
def bY(w:World)(x:Nat)(fs:Fs):Prop:=∃rep a b c,iR w x fs rep a b c
theorem fp.anyR{w:World}{x:Nat}{fs:Fs}(h:fp w x fs):bY w x fs:=⟨_,_,_,_,h⟩
theorem iR.anyR{w:World}{x:Nat}{fs:Fs}{rep:Bool}{a b c:Value}(h:iR w x fs rep a b c):bY w x fs:=⟨_,_,_,_,h⟩
theorem fp.kept{w w':World}{x:Nat}{fs:Fs}{S:List Nat}(h:fp w x fs)(k:aa S w w')(hx:x∉S):fp w' x fs:=bz.kept h k hx
theorem bY.kept{w w':World}{x:Nat}{fs:Fs}{S:List Nat}(h:bY w x fs)(k:aa S w w')(hx:x∉S):bY w' x fs:=by
 obtain⟨r,a,b,c,h⟩:=h;exact⟨r,a,b,c,bz.kept h k hx⟩
theorem bY.lt{w:World}{x:Nat}{fs:Fs}(h:bY w x fs):x<w.heap.size:=by
 obtain⟨r,a,b,c,h⟩:=h;exact bz.lt h
theorem iR.cells{w:World}{x:Nat}{fs:Fs}{rep:Bool}{a b c:Value}(h:iR w x fs rep a b c) :
  w.cell? ⟨x,9,none⟩=some (.bool rep)/\w.cell? ⟨x,10,none⟩=some a/\w.cell? ⟨x,11,none⟩=some b/\w.cell? ⟨x,12,none⟩=some c:=by
 refine⟨?_,?_,?_,?_⟩ <;> (rw[ab h.1];rfl)
def vl(w:World)(x:Nat)(rep:Bool)(a b c:Value):World:=(((w.setCell ⟨x,9,none⟩ (.bool rep)).setCell ⟨x,10,none⟩ a).setCell ⟨x,11,none⟩ b).setCell ⟨x,12,none⟩ c
theorem iR.turn{w:World}{x:Nat}{fs:Fs}{rep:Bool}{a b c:Value}(h:iR w x fs rep a b c)(rep':Bool)(a' b' c':Value):iR (vl w x rep' a' b' c') x fs rep' a' b' c':=by
 refine⟨?_,h.2⟩;unfold vl;rw[ae (ae (ae (ae h.1 9 (.bool rep')) 10 a') 11 b') 12 c'];rfl
theorem xq{S:List Nat}{w w':World}(h:aa S w w'){x:Nat}(hx:x∈S∨w.heap.size<=x)(rep:Bool)(a b c:Value):aa S w (vl w' x rep a b c) :=
 (((h.setCell hx _).setCell hx _).setCell hx _).setCell hx _
theorem yl(w:World):Calls Tryz.prog 11 #[] w fun e w'=>e=.returned (.pointer (some ⟨w.heap.size,0,none⟩))/\fp w' w.heap.size []/\aa [] w w':=by
 go_enter Tryz.func11,Tryz.ntmps11;go_wp2;go_ret;exact⟨rfl,⟨heap_alloc_new _ _,by simp⟩,(aa.refl _ _).alloc _⟩
theorem tL(x:Nat)(fs:Fs)(w:World)(h:bY w x fs) :
  Calls Tryz.prog 40 #[.pointer (some ⟨x,0,none⟩)] w fun e w'=>e=.returned (.tuple #[])/\fp w' x fs/\aa [x] w w':=by
 obtain⟨rep,a,b,c,h⟩:=h;obtain⟨c9,c10,c11,c12⟩:=h.cells;have hf:=bz.free h;have HT:=(show Hid _ from h.turn false (.slice none 0 0) (.slice none 0 0) (.slice none 0 0));unfold vl at HT;have hxw:=bz.lt h;go_enter Tryz.func40,Tryz.ntmps40;go_wp2;go_end0;exact⟨rfl,HT.out,xq (aa.refl _ _) (Or.inl (by simp)) _ _ _ _⟩
theorem qr(x:Nat)(n d:ByteArray)(fs:Fs)(w:World)(h:bY w x fs)(hn:n.size<=1073741824)(hd:d.size<=4294967296) :
  Calls Tryz.prog 12 #[.pointer (some ⟨x,0,none⟩),.string n,.string d] w fun e w'=>e=.returned (.int .i64 (g7 fs n d).1)/\bY w' x (g7 fs n d).2/\((g7 fs n d).1=0->fp w' x (g7 fs n d).2)/\aa [x] w w':=by
 obtain⟨rep,a,b,c,h⟩:=h;have PF:=EA x 96 n d fs [.bool rep,a,b,c] w h hn hd;have HPF:=(show Hid _ from PF);clear PF;generalize g7 fs n d=pf at *;obtain⟨e0,fs'⟩:=pf;simp only at HPF ⊢
 cases he:(e0==0)
 ·go_enter Tryz.func12,Tryz.ntmps12
  go_wp2_with fail;refine Calls.mono HPF.out ?_;rintro e w2 ⟨rfl,h2,hk2⟩;go_wp2;go_ret;exact⟨rfl,⟨rep,a,b,c,h2⟩,fun e=>by subst e;simp at he,hk2⟩
 ·go_enter Tryz.func12,Tryz.ntmps12
  go_wp2_with fail;refine Calls.mono HPF.out ?_;rintro e w2 ⟨rfl,h2,hk2⟩;go_wp2_with fail;refine(tL x fs' w2 ⟨rep,a,b,c,h2⟩).mono ?_;rintro e w3 ⟨rfl,h3,hk3⟩;go_wp2;go_ret;exact⟨rfl,h3.anyR,fun _=>h3,hk2.trans hk3⟩
end Go.Proofs.YtlbhbocbakijbaaGreat
