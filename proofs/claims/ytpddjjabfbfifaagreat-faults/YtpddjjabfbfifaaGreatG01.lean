import Derived.Test.YtpddjjabfbfifaaGreatChecked
import Derived.WalkKit
import Derived.WalkSpells
import Derived.WalkLawsBesides
import Derived.Deep.QuietTactic
import Derived.BigQuiet
namespace Go.Proofs.YtpddjjabfbfifaaGreat
open Go.RowKit
set_option maxHeartbeats 40000000
abbrev Fs:=List (ByteArray×ByteArray)
structure ab(S:List Nat)(w w':World):Prop where
 os:w'.os=w.os
 tape:w'.tape=w.tape
 output:w'.output=w.output
 size:w.heap.size<=w'.heap.size
 block:∀k,k<w.heap.size->k∉S->w'.heap[k]?=w.heap[k]?
theorem ab.refl(S:List Nat)(w:World):ab S w w:=⟨rfl,rfl,rfl,Nat.le_refl _,fun _ _ _=>rfl⟩
theorem ab.trans{S:List Nat}{a b c:World}(h:ab S a b)(k:ab S b c):ab S a c :=
 ⟨k.os.trans h.os,k.tape.trans h.tape,k.output.trans h.output,Nat.le_trans h.size k.size,
  fun i hi hs=>(k.block i (Nat.lt_of_lt_of_le hi h.size) hs).trans (h.block i hi hs)⟩
theorem ab.mono{S S':List Nat}{w w':World}(h:ab S w w')(hS:∀k,k∈S->k<w.heap.size->k∈S'):ab S' w w' :=
 ⟨h.os,h.tape,h.output,h.size,fun k hk hn=>h.block k hk (fun hm=>hn (hS k hm hk))⟩
theorem ab.drew{S:List Nat}{a w:World}(h:ab S a w):ab S a w.drew:=⟨h.os,h.tape,h.output,h.size,h.block⟩
theorem ab.drewN{S:List Nat}{a w:World}(h:ab S a w)(n:Nat):ab S a (w.drewN n):=⟨h.os,h.tape,h.output,h.size,h.block⟩
theorem ab.alloc{S:List Nat}{a w:World}(h:ab S a w)(o:Obj):ab S a (w.alloc o) :=
 h.trans ⟨rfl,rfl,rfl,by simp,fun k hk _=>Below.heap_alloc _ _ _ hk⟩
theorem ab.setCell{S:List Nat}{a w:World}(h:ab S a w){p:Addr}(hp:p.block∈S∨a.heap.size<=p.block)(u:Value):ab S a (w.setCell p u) :=
 ⟨h.os,h.tape,h.output,by have:=h.size;simp[World.setCell];omega,fun k hk hs=>by
  rw[Below.heap_setCell _ _ _ _ (by rintro rfl;exact hp.elim hs (fun hp=>by omega))];exact h.block k hk hs⟩
theorem ab.below{w w':World}(h:ab [] w w'):Below w.heap.size w w' :=
 ⟨h.os,h.tape,h.output,h.size,fun k hk=>h.block k hk (by simp)⟩
theorem aa{w:World}{b t:Nat}{c:Array Value}(h:w.heap[b]?=some (.cells c t (0,0)))(i:Nat):w.cell? ⟨b,i,none⟩=c[i]?:=by
 unfold World.cell?;simp[h]
theorem ak{w:World}{b t:Nat}{c:Array Value}(h:w.heap[b]?=some (.cells c t (0,0)))(i:Nat):w.frozen? ⟨b,i,none⟩=false:=by
 unfold World.frozen?;simp[h]
theorem ah{w:World}{b t:Nat}{c:Array Value}(h:w.heap[b]?=some (.cells c t (0,0)))(i:Nat)(u:Value) :
  (w.setCell ⟨b,i,none⟩ u).heap[b]?=some (.cells (c.setIfInBounds i u) t (0,0)):=by
 simp[World.setCell,Array.getElem?_modify,h]
theorem ae{w:World}{b:Nat}{o:Obj}(h:w.heap[b]?=some o):b<w.heap.size:=by
 rcases Nat.lt_or_ge b w.heap.size with h' | h'
 ·exact h'
 ·rw[Array.getElem?_eq_none h']at h;simp at h
theorem FM{P:Program}{f:FuncId}{args:Array Value}{w:World}{q x:Nat}{v:Value}(h:Calls P f args (w.drewN (q+x)) fun e w'=>e=.returned v/\w'=w.drewN (q+x)) :
  Calls P f args (w.drewN (q+x)) fun e w'=>e=.returned v/\∃n,w'=w.drewN (q+n) :=
 h.mono fun _ _ hh=>⟨hh.1,x,hh.2⟩
theorem aB{a b:Bool}(h:a=b):Ending.returned (.bool a)=.returned (.bool b):=by rw[h]
theorem am{k:IntKind}{a b:Int}(h:a=b):Ending.returned (.int k a)=.returned (.int k b):=by rw[h]
theorem DM{a b:ByteArray}(h:a.toList=b.toList):a=b:=by
 rw[ByteArray.toList_eq,ByteArray.toList_eq]at h
 cases a;cases b
 simp only[Array.toList_inj]at h;rw[h]
def cC(n:Int):Bool:=n==32||n==9||n==10||n==12||n==13
def eN(n:Int):Bool:=decide (33<=n)&&decide (n<=126)
theorem i9(n:Int)(w:World) :
  Calls Tryz.prog 226 #[.int .u8 n] w fun e w'=>e=.returned (.bool (cC n))/\w'=w:=by
 go_enter Tryz.func226,Tryz.ntmps226;go_wp2
 all_goals go_ret
 all_goals (refine⟨?_,rfl⟩;simp[cC, *])
theorem nf(n:Int)(w:World) :
  Calls Tryz.prog 229 #[.int .u8 n] w fun e w'=>e=.returned (.bool (eN n))/\w'=w:=by
 go_enter Tryz.func229,Tryz.ntmps229;go_wp2
 all_goals go_ret
 all_goals (refine⟨?_,rfl⟩;first | (simp[eN, *];done) | (simp[eN];omega))
def aF(d:ByteArray)(k:Nat):Int:=if h:k<d.size then((d[k]'h).toNat:Int) else 0
theorem bI(d:ByteArray)(k:Nat)(h:k<d.size):aF d k=((d[k]'h).toNat:Int):=by unfold aF;rw[dif_pos h]
def aL(d:ByteArray):Nat->Int
 | 0=>1
 | k+1=>if aF d k==10 then aL d k+1 else aL d k
def aW(d:ByteArray):Nat->Int
 | 0=>1
 | k+1=>if aF d k==10 then 1 else aW d k+1
theorem xc(d:ByteArray)(k:Nat):1<=aL d k/\aL d k<=k+1:=by
 induction k with
 | zero=>simp[aL]
 | succ k ih=>simp only[aL];split <;> omega
theorem xL(d:ByteArray)(k:Nat):1<=aW d k/\aW d k<=k+1:=by
 induction k with
 | zero=>simp[aW]
 | succ k ih=>simp only[aW];split <;> omega
def kV(n d:ByteArray)(k:Nat):Array Value:=#[.string n,.string d,.int .i64 k,.int .i64 (aL d k),.int .i64 (aW d k)]
def bN(w:World)(b:Nat)(n d:ByteArray)(k:Nat):Prop:=w.heap[b]?=some (.cells (kV n d k) 300 (0,0))
theorem bN.cells{w:World}{b:Nat}{n d:ByteArray}{k:Nat}(h:bN w b n d k) :
  w.cell? ⟨b,0,none⟩=some (.string n)/\w.cell? ⟨b,1,none⟩=some (.string d)/\w.cell? ⟨b,2,none⟩=some (.int .i64 k) /\
  w.cell? ⟨b,3,none⟩=some (.int .i64 (aL d k))/\w.cell? ⟨b,4,none⟩=some (.int .i64 (aW d k)):=by
 refine⟨?_,?_,?_,?_,?_⟩ <;> (rw[aa h];rfl)
theorem bN.kept{w w':World}{b:Nat}{n d:ByteArray}{k:Nat}{S:List Nat}(h:bN w b n d k)(hk:ab S w w')(hb:b∉S):bN w' b n d k :=
 (hk.block b (ae h) hb).trans h
theorem ab.get{S:List Nat}{w w':World}(hk:ab S w w'){b:Nat}{o:Obj}(h:w.heap[b]?=some o)(hb:b∉S):w'.heap[b]?=some o :=
 (hk.block b (ae h) hb).trans h
theorem xN{w:World}{b k:Nat}{n d:ByteArray}(h:bN w b n d k)(hk:k<d.size)(hb:((d[k].toNat:Int)==10)=true)(m:Nat) :
  bN (((((w.drewN m).setCell ⟨b,3,none⟩ (.int .i64 (aL d k+1))).setCell ⟨b,4,none⟩ (.int .i64 0)).setCell ⟨b,4,none⟩ (.int .i64 1)).setCell ⟨b,2,none⟩ (.int .i64 ((k:Int)+1))) b n d (k+1):=by
 have h0:(w.drewN m).heap[b]?=some (.cells (kV n d k) 300 (0,0)):=h;have h4:=ah (ah (ah (ah h0 3 (.int .i64 (aL d k+1))) 4 (.int .i64 0)) 4 (.int .i64 1)) 2 (.int .i64 ((k:Int)+1));unfold bN;rw[h4];simp[kV,aL,aW,bI d k hk,hb]
theorem sw{w:World}{b k:Nat}{n d:ByteArray}(h:bN w b n d k)(hk:k<d.size)(hb:((d[k].toNat:Int)==10)=false)(m:Nat) :
  bN (((w.drewN m).setCell ⟨b,4,none⟩ (.int .i64 (aW d k+1))).setCell ⟨b,2,none⟩ (.int .i64 ((k:Int)+1))) b n d (k+1):=by
 have h0:(w.drewN m).heap[b]?=some (.cells (kV n d k) 300 (0,0)):=h;have h4:=ah (ah h0 4 (.int .i64 (aW d k+1))) 2 (.int .i64 ((k:Int)+1));unfold bN;rw[h4];simp[kV,aL,aW,bI d k hk,hb]
theorem zz(b k:Nat)(n d:ByteArray)(w:World)(hd:d.size<=1024)(hk:k<d.size)(h:bN w b n d k) :
  Calls Tryz.prog 227 #[.pointer (some ⟨b,0,none⟩)] w fun e w'=>e=.returned (.tuple #[])/\bN w' b n d (k+1)/\ab [b] w w':=by
 obtain⟨c0,c1,c2,c3,c4⟩:=h.cells;have f2:=ak h 2;have f3:=ak h 3;have f4:=ak h 4;have bl:=xc d k;have bc:=xL d k;go_enter Tryz.func227,Tryz.ntmps227;go_wp2
 go_quiet (fail)
 go_wp2
 go_quiet (fail)
 go_wp2
 all_goals go_end0
 all_goals refine⟨rfl,?_,?_⟩
 ·exact xN h hk (by assumption) _
 ·exact((((((ab.refl _ _).drewN _).setCell (Or.inl (by simp)) _).setCell (Or.inl (by simp)) _).setCell (Or.inl (by simp)) _).setCell (Or.inl (by simp)) _)
 ·exact sw h hk (by assumption) _
 ·exact((((ab.refl _ _).drewN _).setCell (Or.inl (by simp)) _).setCell (Or.inl (by simp)) _)
theorem vY(b k:Nat)(n d:ByteArray)(w:World)(h:bN w b n d k) :
  Calls Tryz.prog 228 #[.pointer (some ⟨b,0,none⟩)] w fun e w'=>e=.returned (.agg #[.string n,.int .i64 (aL d k),.int .i64 (aW d k)])/\ab [] w w':=by
 obtain⟨c0,c1,c2,c3,c4⟩:=h.cells;have hb:=ae h;go_enter Tryz.func228,Tryz.ntmps228;go_wp2
 go_region
 all_goals go_wp2
 exact bodyPost_ret (v:=.agg #[.string n,.int .i64 (aL d k),.int .i64 (aW d k)]) (by simp[results,Tryz.results228,go_sem]) rfl ⟨rfl,((ab.refl _ _).alloc _).drew⟩
def nS(d:ByteArray):Nat->Nat->Nat
 | 0,k=>k
 | f+1,k=>if k<d.size/\cC (aF d k)=true then nS d f (k+1) else k
def skip(d:ByteArray)(k:Nat):Nat:=nS d (d.size-k) k
def nN(d:ByteArray):Nat->Nat->Nat
 | 0,k=>k
 | f+1,k=>if k<d.size/\cC (aF d k)=false/\eN (aF d k)=true then nN d f (k+1) else k
def ci(d:ByteArray)(k:Nat):Nat:=nN d (d.size-k) k
theorem CS(d:ByteArray)(k:Nat)(h:k<d.size)(hb:cC (aF d k)=true):skip d k=skip d (k+1):=by
 unfold skip;rw[show d.size-k=(d.size-(k+1))+1 by omega];rw[nS,if_pos ⟨h,hb⟩]
theorem pQ(d:ByteArray)(k:Nat)(h:¬(k<d.size/\cC (aF d k)=true)):skip d k=k:=by
 unfold skip
 cases d.size-k with
 | zero=>rfl
 | succ f=>rw[nS,if_neg h]
theorem CT(d:ByteArray)(k:Nat)(h:k<d.size)(hb:cC (aF d k)=false)(hp:eN (aF d k)=true):ci d k=ci d (k+1):=by
 unfold ci;rw[show d.size-k=(d.size-(k+1))+1 by omega];rw[nN,if_pos ⟨h,hb,hp⟩]
theorem uQ(d:ByteArray)(k:Nat)(h:¬(k<d.size/\cC (aF d k)=false/\eN (aF d k)=true)):ci d k=k:=by
 unfold ci
 cases d.size-k with
 | zero=>rfl
 | succ f=>rw[nN,if_neg h]
theorem vR(d:ByteArray)(f k:Nat):k<=nS d f k/\(k<=d.size->nS d f k<=d.size):=by
 induction f generalizing k with
 | zero=>simp[nS]
 | succ f ih =>
  rw[nS];split
  ·have:=ih (k+1);omega
  ·omega
theorem wa(d:ByteArray)(f k:Nat):k<=nN d f k/\(k<=d.size->nN d f k<=d.size):=by
 induction f generalizing k with
 | zero=>simp[nN]
 | succ f ih =>
  rw[nN];split
  ·have:=ih (k+1);omega
  ·omega
theorem wL(d:ByteArray)(k:Nat)(h:k<=d.size):k<=skip d k/\skip d k<=d.size:=⟨(vR d _ k).1,(vR d _ k).2 h⟩
theorem pm(d:ByteArray)(k:Nat)(h:k<=d.size):k<=ci d k/\ci d k<=d.size:=⟨(wa d _ k).1,(wa d _ k).2 h⟩
structure pF where
 text:ByteArray
 rule:Int
 fin:Bool
 pos:Nat
def eu(n d:ByteArray)(i:pF):Value:=.agg #[.string i.text,.int .i64 i.rule,.bool i.fin,.string n,.int .i64 (aL d i.pos),.int .i64 (aW d i.pos)]
def bi(d:ByteArray)(k:Nat):pF×Nat :=
 let a:=skip d k
 let z:=ci d a
 if z<d.size/\cC (aF d z)=false then(⟨⟨#[]⟩,1,false,z⟩,z)
 else if z<=a then(⟨⟨#[]⟩,0,true,a⟩,z)
 else(⟨d.extract a z,0,false,a⟩,z)
theorem ze(d:ByteArray)(k j z:Nat)(hj:j=skip d k)(hw:ci d z=ci d j)(hz:z<d.size)(hb:cC (aF d z)=false)(hp:eN (aF d z)=false) :
  bi d k=(⟨⟨#[]⟩,1,false,z⟩,z):=by
 have e:ci d (skip d k)=z:=by rw[<-hj,<-hw];exact uQ d z (fun h=>by simp[hp]at h)
 simp only[bi,e];rw[if_pos ⟨hz,hb⟩]
theorem yp(d:ByteArray)(k j z:Nat)(hj:j=skip d k)(hw:ci d z=ci d j)(hs:¬(z<d.size/\cC (aF d z)=false))(hz:z<=j) :
  bi d k=(⟨⟨#[]⟩,0,true,j⟩,z):=by
 have e:ci d (skip d k)=z:=by rw[<-hj,<-hw];exact uQ d z (fun h=>hs ⟨h.1,h.2.1⟩)
 simp only[bi,e];rw[if_neg hs,<-hj,if_pos hz]
theorem vN(d:ByteArray)(k j z:Nat)(hj:j=skip d k)(hw:ci d z=ci d j)(hs:¬(z<d.size/\cC (aF d z)=false))(hz:j<z) :
  bi d k=(⟨d.extract j z,0,false,j⟩,z):=by
 have e:ci d (skip d k)=z:=by rw[<-hj,<-hw];exact uQ d z (fun h=>hs ⟨h.1,h.2.1⟩)
 simp only[bi,e];rw[if_neg hs,<-hj,if_neg (by omega)]
theorem Dj(d:ByteArray)(z:Nat) :
  (∃h:z<d.size,cC ((d[z]'h).toNat:Int)=false/\eN ((d[z]'h).toNat:Int)=true/\ci d (z+1)=ci d z) ∨
  (∃h:z<d.size,cC ((d[z]'h).toNat:Int)=false/\eN ((d[z]'h).toNat:Int)=false) ∨
  (∃h:z<d.size,cC ((d[z]'h).toNat:Int)=true)∨(¬z<d.size/\decide ((z:Int)<(d.size:Int))=false):=by
 by_cases h:z<d.size
 ·have e:=bI d z h
  cases hb:cC (aF d z) with
  | true=>exact Or.inr (Or.inr (Or.inl ⟨h,e ▸ hb⟩))
  | false =>
   cases hp:eN (aF d z) with
   | true=>exact Or.inl ⟨h,e ▸ hb,e ▸ hp,(CT d z h hb hp).symm⟩
   | false=>exact Or.inr (Or.inl ⟨h,e ▸ hb,e ▸ hp⟩)
 ·exact Or.inr (Or.inr (Or.inr ⟨h,by simp;omega⟩))
end Go.Proofs.YtpddjjabfbfifaaGreat
