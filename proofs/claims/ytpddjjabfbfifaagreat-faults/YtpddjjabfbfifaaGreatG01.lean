import Derived.Test.YtpddjjabfbfifaaGreatChecked
import Derived.WalkKit
import Derived.WalkSpells
import Derived.WalkLawsBesides
import Derived.Deep.QuietTactic
import Derived.BigQuiet
import Derived.Deep.LoopGhost
import Derived.Laws.CopyRow
import Derived.Laws.MakeOwn
import Derived.Deep.RegionLaw
namespace Go.Proofs.YtpddjjabfbfifaaGreat
open Go.RowKit
set_option maxHeartbeats 40000000
abbrev Fs:=List (ByteArray×ByteArray)
structure ab(S:List Nat)(w w':World):Prop where
 os:w'.os=w.os
 tape:w'.tape=w.tape
 output:w'.output=w.output
 size:w.heap.size<=w'.heap.size
 block:∀k,k<w.heap.size->k∉S->w'.heap[k]?=w.heap[k]?
theorem ab.refl(S:List Nat)(w:World):ab S w w:=⟨rfl,rfl,rfl,Nat.le_refl _,fun _ _ _=>rfl⟩
theorem ab.trans{S:List Nat}{a b c:World}(h:ab S a b)(k:ab S b c):ab S a c :=
 ⟨k.os.trans h.os,k.tape.trans h.tape,k.output.trans h.output,Nat.le_trans h.size k.size,
  fun i hi hs=>(k.block i (Nat.lt_of_lt_of_le hi h.size) hs).trans (h.block i hi hs)⟩
theorem ab.mono{S S':List Nat}{w w':World}(h:ab S w w')(hS:∀k,k∈S->k<w.heap.size->k∈S'):ab S' w w' :=
 ⟨h.os,h.tape,h.output,h.size,fun k hk hn=>h.block k hk (fun hm=>hn (hS k hm hk))⟩
theorem ab.drew{S:List Nat}{a w:World}(h:ab S a w):ab S a w.drew:=⟨h.os,h.tape,h.output,h.size,h.block⟩
theorem ab.drewN{S:List Nat}{a w:World}(h:ab S a w)(n:Nat):ab S a (w.drewN n):=⟨h.os,h.tape,h.output,h.size,h.block⟩
theorem ab.alloc{S:List Nat}{a w:World}(h:ab S a w)(o:Obj):ab S a (w.alloc o) :=
 h.trans ⟨rfl,rfl,rfl,by simp,fun k hk _=>Below.heap_alloc _ _ _ hk⟩
theorem ab.setCell{S:List Nat}{a w:World}(h:ab S a w){p:Addr}(hp:p.block∈S∨a.heap.size<=p.block)(u:Value):ab S a (w.setCell p u) :=
 ⟨h.os,h.tape,h.output,by have:=h.size;simp[World.setCell];omega,fun k hk hs=>by
  rw[Below.heap_setCell _ _ _ _ (by rintro rfl;exact hp.elim hs (fun hp=>by omega))];exact h.block k hk hs⟩
theorem ab.below{w w':World}(h:ab [] w w'):Below w.heap.size w w' :=
 ⟨h.os,h.tape,h.output,h.size,fun k hk=>h.block k hk (by simp)⟩
theorem aa{w:World}{b t:Nat}{c:Array Value}(h:w.heap[b]?=some (.cells c t (0,0)))(i:Nat):w.cell? ⟨b,i,none⟩=c[i]?:=by
 unfold World.cell?;simp[h]
theorem ak{w:World}{b t:Nat}{c:Array Value}(h:w.heap[b]?=some (.cells c t (0,0)))(i:Nat):w.frozen? ⟨b,i,none⟩=false:=by
 unfold World.frozen?;simp[h]
theorem ah{w:World}{b t:Nat}{c:Array Value}(h:w.heap[b]?=some (.cells c t (0,0)))(i:Nat)(u:Value) :
  (w.setCell ⟨b,i,none⟩ u).heap[b]?=some (.cells (c.setIfInBounds i u) t (0,0)):=by
 simp[World.setCell,Array.getElem?_modify,h]
theorem ae{w:World}{b:Nat}{o:Obj}(h:w.heap[b]?=some o):b<w.heap.size:=by
 rcases Nat.lt_or_ge b w.heap.size with h' | h'
 ·exact h'
 ·rw[Array.getElem?_eq_none h']at h;simp at h
theorem GT{P:Program}{f:FuncId}{args:Array Value}{w:World}{q x:Nat}{v:Value}(h:Calls P f args (w.drewN (q+x)) fun e w'=>e=.returned v/\w'=w.drewN (q+x)) :
  Calls P f args (w.drewN (q+x)) fun e w'=>e=.returned v/\∃n,w'=w.drewN (q+n) :=
 h.mono fun _ _ hh=>⟨hh.1,x,hh.2⟩
theorem aB{a b:Bool}(h:a=b):Ending.returned (.bool a)=.returned (.bool b):=by rw[h]
theorem am{k:IntKind}{a b:Int}(h:a=b):Ending.returned (.int k a)=.returned (.int k b):=by rw[h]
theorem Dq{a b:ByteArray}(h:a.toList=b.toList):a=b:=by
 rw[ByteArray.toList_eq,ByteArray.toList_eq]at h
 cases a;cases b
 simp only[Array.toList_inj]at h;rw[h]
def cv(n:Int):Bool:=n==32||n==9||n==10||n==12||n==13
def eG(n:Int):Bool:=decide (33<=n)&&decide (n<=126)
theorem jc(n:Int)(w:World) :
  Calls Tryz.prog 226 #[.int .u8 n] w fun e w'=>e=.returned (.bool (cv n))/\w'=w:=by
 go_enter Tryz.func226,Tryz.ntmps226;go_wp2
 all_goals go_ret
 all_goals (refine⟨?_,rfl⟩;simp[cv, *])
theorem nh(n:Int)(w:World) :
  Calls Tryz.prog 229 #[.int .u8 n] w fun e w'=>e=.returned (.bool (eG n))/\w'=w:=by
 go_enter Tryz.func229,Tryz.ntmps229;go_wp2
 all_goals go_ret
 all_goals (refine⟨?_,rfl⟩;first | (simp[eG, *];done) | (simp[eG];omega))
def aF(d:ByteArray)(k:Nat):Int:=if h:k<d.size then((d[k]'h).toNat:Int) else 0
theorem bI(d:ByteArray)(k:Nat)(h:k<d.size):aF d k=((d[k]'h).toNat:Int):=by unfold aF;rw[dif_pos h]
def aL(d:ByteArray):Nat->Int
 | 0=>1
 | k+1=>if aF d k==10 then aL d k+1 else aL d k
def aW(d:ByteArray):Nat->Int
 | 0=>1
 | k+1=>if aF d k==10 then 1 else aW d k+1
theorem xm(d:ByteArray)(k:Nat):1<=aL d k/\aL d k<=k+1:=by
 induction k with
 | zero=>simp[aL]
 | succ k ih=>simp only[aL];split <;> omega
theorem wS(d:ByteArray)(k:Nat):1<=aW d k/\aW d k<=k+1:=by
 induction k with
 | zero=>simp[aW]
 | succ k ih=>simp only[aW];split <;> omega
def kY(n d:ByteArray)(k:Nat):Array Value:=#[.string n,.string d,.int .i64 k,.int .i64 (aL d k),.int .i64 (aW d k)]
def bN(w:World)(b:Nat)(n d:ByteArray)(k:Nat):Prop:=w.heap[b]?=some (.cells (kY n d k) 300 (0,0))
theorem bN.cells{w:World}{b:Nat}{n d:ByteArray}{k:Nat}(h:bN w b n d k) :
  w.cell? ⟨b,0,none⟩=some (.string n)/\w.cell? ⟨b,1,none⟩=some (.string d)/\w.cell? ⟨b,2,none⟩=some (.int .i64 k) /\
  w.cell? ⟨b,3,none⟩=some (.int .i64 (aL d k))/\w.cell? ⟨b,4,none⟩=some (.int .i64 (aW d k)):=by
 refine⟨?_,?_,?_,?_,?_⟩ <;> (rw[aa h];rfl)
theorem bN.kept{w w':World}{b:Nat}{n d:ByteArray}{k:Nat}{S:List Nat}(h:bN w b n d k)(hk:ab S w w')(hb:b∉S):bN w' b n d k :=
 (hk.block b (ae h) hb).trans h
theorem ab.get{S:List Nat}{w w':World}(hk:ab S w w'){b:Nat}{o:Obj}(h:w.heap[b]?=some o)(hb:b∉S):w'.heap[b]?=some o :=
 (hk.block b (ae h) hb).trans h
theorem xE{w:World}{b k:Nat}{n d:ByteArray}(h:bN w b n d k)(hk:k<d.size)(hb:((d[k].toNat:Int)==10)=true)(m:Nat) :
  bN (((((w.drewN m).setCell ⟨b,3,none⟩ (.int .i64 (aL d k+1))).setCell ⟨b,4,none⟩ (.int .i64 0)).setCell ⟨b,4,none⟩ (.int .i64 1)).setCell ⟨b,2,none⟩ (.int .i64 ((k:Int)+1))) b n d (k+1):=by
 have h0:(w.drewN m).heap[b]?=some (.cells (kY n d k) 300 (0,0)):=h;have h4:=ah (ah (ah (ah h0 3 (.int .i64 (aL d k+1))) 4 (.int .i64 0)) 4 (.int .i64 1)) 2 (.int .i64 ((k:Int)+1));unfold bN;rw[h4];simp[kY,aL,aW,bI d k hk,hb]
theorem su{w:World}{b k:Nat}{n d:ByteArray}(h:bN w b n d k)(hk:k<d.size)(hb:((d[k].toNat:Int)==10)=false)(m:Nat) :
  bN (((w.drewN m).setCell ⟨b,4,none⟩ (.int .i64 (aW d k+1))).setCell ⟨b,2,none⟩ (.int .i64 ((k:Int)+1))) b n d (k+1):=by
 have h0:(w.drewN m).heap[b]?=some (.cells (kY n d k) 300 (0,0)):=h;have h4:=ah (ah h0 4 (.int .i64 (aW d k+1))) 2 (.int .i64 ((k:Int)+1));unfold bN;rw[h4];simp[kY,aL,aW,bI d k hk,hb]
theorem zI(b k:Nat)(n d:ByteArray)(w:World)(hd:d.size<=1024)(hk:k<d.size)(h:bN w b n d k) :
  Calls Tryz.prog 227 #[.pointer (some ⟨b,0,none⟩)] w fun e w'=>e=.returned (.tuple #[])/\bN w' b n d (k+1)/\ab [b] w w':=by
 obtain⟨c0,c1,c2,c3,c4⟩:=h.cells;have f2:=ak h 2;have f3:=ak h 3;have f4:=ak h 4;have bl:=xm d k;have bc:=wS d k;go_enter Tryz.func227,Tryz.ntmps227;go_wp2
 go_quiet (fail)
 go_wp2
 go_quiet (fail)
 go_wp2
 all_goals go_end0
 all_goals refine⟨rfl,?_,?_⟩
 ·exact xE h hk (by assumption) _
 ·exact((((((ab.refl _ _).drewN _).setCell (Or.inl (by simp)) _).setCell (Or.inl (by simp)) _).setCell (Or.inl (by simp)) _).setCell (Or.inl (by simp)) _)
 ·exact su h hk (by assumption) _
 ·exact((((ab.refl _ _).drewN _).setCell (Or.inl (by simp)) _).setCell (Or.inl (by simp)) _)
theorem v7(b k:Nat)(n d:ByteArray)(w:World)(h:bN w b n d k) :
  Calls Tryz.prog 228 #[.pointer (some ⟨b,0,none⟩)] w fun e w'=>e=.returned (.agg #[.string n,.int .i64 (aL d k),.int .i64 (aW d k)])/\ab [] w w':=by
 obtain⟨c0,c1,c2,c3,c4⟩:=h.cells;have hb:=ae h;go_enter Tryz.func228,Tryz.ntmps228;go_wp2
 go_region
 all_goals go_wp2
 exact bodyPost_ret (v:=.agg #[.string n,.int .i64 (aL d k),.int .i64 (aW d k)]) (by simp[results,Tryz.results228,go_sem]) rfl ⟨rfl,((ab.refl _ _).alloc _).drew⟩
def nU(d:ByteArray):Nat->Nat->Nat
 | 0,k=>k
 | f+1,k=>if k<d.size/\cv (aF d k)=true then nU d f (k+1) else k
def skip(d:ByteArray)(k:Nat):Nat:=nU d (d.size-k) k
def nY(d:ByteArray):Nat->Nat->Nat
 | 0,k=>k
 | f+1,k=>if k<d.size/\cv (aF d k)=false/\eG (aF d k)=true then nY d f (k+1) else k
def ci(d:ByteArray)(k:Nat):Nat:=nY d (d.size-k) k
theorem CZ(d:ByteArray)(k:Nat)(h:k<d.size)(hb:cv (aF d k)=true):skip d k=skip d (k+1):=by
 unfold skip;rw[show d.size-k=(d.size-(k+1))+1 by omega];rw[nU,if_pos ⟨h,hb⟩]
theorem qr(d:ByteArray)(k:Nat)(h:¬(k<d.size/\cv (aF d k)=true)):skip d k=k:=by
 unfold skip
 cases d.size-k with
 | zero=>rfl
 | succ f=>rw[nU,if_neg h]
theorem Dc(d:ByteArray)(k:Nat)(h:k<d.size)(hb:cv (aF d k)=false)(hp:eG (aF d k)=true):ci d k=ci d (k+1):=by
 unfold ci;rw[show d.size-k=(d.size-(k+1))+1 by omega];rw[nY,if_pos ⟨h,hb,hp⟩]
theorem uR(d:ByteArray)(k:Nat)(h:¬(k<d.size/\cv (aF d k)=false/\eG (aF d k)=true)):ci d k=k:=by
 unfold ci
 cases d.size-k with
 | zero=>rfl
 | succ f=>rw[nY,if_neg h]
theorem wg(d:ByteArray)(f k:Nat):k<=nU d f k/\(k<=d.size->nU d f k<=d.size):=by
 induction f generalizing k with
 | zero=>simp[nU]
 | succ f ih =>
  rw[nU];split
  ·have:=ih (k+1);omega
  ·omega
theorem wC(d:ByteArray)(f k:Nat):k<=nY d f k/\(k<=d.size->nY d f k<=d.size):=by
 induction f generalizing k with
 | zero=>simp[nY]
 | succ f ih =>
  rw[nY];split
  ·have:=ih (k+1);omega
  ·omega
theorem xF(d:ByteArray)(k:Nat)(h:k<=d.size):k<=skip d k/\skip d k<=d.size:=⟨(wg d _ k).1,(wg d _ k).2 h⟩
theorem pE(d:ByteArray)(k:Nat)(h:k<=d.size):k<=ci d k/\ci d k<=d.size:=⟨(wC d _ k).1,(wC d _ k).2 h⟩
structure pG where
 text:ByteArray
 rule:Int
 fin:Bool
 pos:Nat
def ew(n d:ByteArray)(i:pG):Value:=.agg #[.string i.text,.int .i64 i.rule,.bool i.fin,.string n,.int .i64 (aL d i.pos),.int .i64 (aW d i.pos)]
def bi(d:ByteArray)(k:Nat):pG×Nat :=
 let a:=skip d k
 let z:=ci d a
 if z<d.size/\cv (aF d z)=false then(⟨⟨#[]⟩,1,false,z⟩,z)
 else if z<=a then(⟨⟨#[]⟩,0,true,a⟩,z)
 else(⟨d.extract a z,0,false,a⟩,z)
theorem zA(d:ByteArray)(k j z:Nat)(hj:j=skip d k)(hw:ci d z=ci d j)(hz:z<d.size)(hb:cv (aF d z)=false)(hp:eG (aF d z)=false) :
  bi d k=(⟨⟨#[]⟩,1,false,z⟩,z):=by
 have e:ci d (skip d k)=z:=by rw[<-hj,<-hw];exact uR d z (fun h=>by simp[hp]at h)
 simp only[bi,e];rw[if_pos ⟨hz,hb⟩]
theorem zB(d:ByteArray)(k j z:Nat)(hj:j=skip d k)(hw:ci d z=ci d j)(hs:¬(z<d.size/\cv (aF d z)=false))(hz:z<=j) :
  bi d k=(⟨⟨#[]⟩,0,true,j⟩,z):=by
 have e:ci d (skip d k)=z:=by rw[<-hj,<-hw];exact uR d z (fun h=>hs ⟨h.1,h.2.1⟩)
 simp only[bi,e];rw[if_neg hs,<-hj,if_pos hz]
theorem we(d:ByteArray)(k j z:Nat)(hj:j=skip d k)(hw:ci d z=ci d j)(hs:¬(z<d.size/\cv (aF d z)=false))(hz:j<z) :
  bi d k=(⟨d.extract j z,0,false,j⟩,z):=by
 have e:ci d (skip d k)=z:=by rw[<-hj,<-hw];exact uR d z (fun h=>hs ⟨h.1,h.2.1⟩)
 simp only[bi,e];rw[if_neg hs,<-hj,if_neg (by omega)]
theorem Fk(d:ByteArray)(z:Nat) :
  (∃h:z<d.size,cv ((d[z]'h).toNat:Int)=false/\eG ((d[z]'h).toNat:Int)=true/\ci d (z+1)=ci d z) ∨
  (∃h:z<d.size,cv ((d[z]'h).toNat:Int)=false/\eG ((d[z]'h).toNat:Int)=false) ∨
  (∃h:z<d.size,cv ((d[z]'h).toNat:Int)=true)∨(¬z<d.size/\decide ((z:Int)<(d.size:Int))=false):=by
 by_cases h:z<d.size
 ·have e:=bI d z h
  cases hb:cv (aF d z) with
  | true=>exact Or.inr (Or.inr (Or.inl ⟨h,e ▸ hb⟩))
  | false =>
   cases hp:eG (aF d z) with
   | true=>exact Or.inl ⟨h,e ▸ hb,e ▸ hp,(Dc d z h hb hp).symm⟩
   | false=>exact Or.inr (Or.inl ⟨h,e ▸ hb,e ▸ hp⟩)
 ·exact Or.inr (Or.inr (Or.inr ⟨h,by simp;omega⟩))
def jt(n:Int):Bool:=decide (33<=n)&&decide (n<=126) && !(n==36)
def fc(s:ByteArray):Bool:=decide (1<=s.size)&&decide (s.size<=8)&&(List.range s.size).all (fun i=>jt (aF s i))
def cn(n d:ByteArray):Int:=if fc n=false then 2 else if 1024<d.size then 3 else 0
theorem kQ(s:ByteArray)(h:s.size<1∨8<s.size):fc s=false:=by
  unfold fc
  rcases h with h | h
  · simp[show ¬1<=s.size by omega]
  · simp[show ¬s.size<=8 by omega]
theorem AM(s:ByteArray)(i:Nat)(h:i<s.size)(hb:jt (aF s i)=false):fc s=false:=by
  unfold fc
  have:(List.range s.size).all (fun i=>jt (aF s i))=false:=by
    rw[List.all_eq_false];exact⟨i,by simp[h],by simp[hb]⟩
  simp[this]
theorem yT(s:ByteArray)(h1:1<=s.size)(h2:s.size<=8)(h:∀i,i<s.size->jt (aF s i)=true):fc s=true:=by
  unfold fc
  have:(List.range s.size).all (fun i=>jt (aF s i))=true:=by
    rw[List.all_eq_true];intro i hi;exact h i (by simpa using hi)
  simp[this,h1,h2]
theorem pi(s:ByteArray)(w:World)(hs:s.size<=1073741824) :
    Calls Tryz.prog 77 #[.string s] w fun e w'=>e=.returned (.bool (fc s))/\w'=w:=by
  by_cases h1:1<=s.size
  · by_cases h2:s.size<=8
    · go_enter Tryz.func77,Tryz.ntmps77
      go_wp2
      go_loopg [3] s.size (fun g i wr=>∃k:Nat,k<=s.size/\g=s.size-k/\i=.int .i64 k/\Hid (∀i,i<k->jt (aF s i)=true)/\wr=w)
      case atStart=>exact⟨0,by omega,by omega,rfl,fun i h=>by omega,rfl⟩
      case round =>
        obtain⟨k,hk,hg,rfl,hall,rfl⟩:=hrel
        by_cases hlt:k<s.size
        · have hq:∀b:Bool,jt (s[k].toNat:Int)=b->jt (aF s k)=b:=fun b h=>by rw[bI s k hlt];exact h
          have HQ:Hid (∀b:Bool,jt (s[k].toNat:Int)=b->jt (aF s k)=b):=hq;clear hq;go_wp2
          all_goals first
            | (go_ret;refine⟨aB ?_,rfl⟩;rw[AM s k hlt (HQ.out false ?_)];first | (simp[jt];omega) | (simp[jt];simp at *;omega))
            | (go_roundg (s.size-(k+1))
               case measure=>omega
               case rel =>
                 refine⟨k+1,by omega,rfl,by go_num,?_,rfl⟩;intro i hi
                 by_cases e:i=k
                 · subst e;exact HQ.out true (by simp[jt];simp at *;omega)
                 · exact hall.out i (by omega))
        · go_wp2
          go_ret;exact⟨aB (yT s h1 h2 (fun i hi=>hall.out i (by omega))).symm,rfl⟩
    · go_enter Tryz.func77,Tryz.ntmps77
      go_wp2
      all_goals go_ret
      all_goals exact⟨aB (kQ s (Or.inr (by omega))).symm,rfl⟩
  · go_enter Tryz.func77,Tryz.ntmps77
    go_wp2
    all_goals go_ret
    all_goals exact⟨aB (kQ s (Or.inl (by omega))).symm,rfl⟩
theorem lY(n d:ByteArray)(w:World)(hn:n.size<=1073741824)(hd:d.size<=4294967296) :
    Calls Tryz.prog 49 #[.string n,.string d] w fun e w'=>e=.returned (.int .i64 (cn n d))/\w'=w:=by
  cases hb:fc n
  · go_enter Tryz.func49,Tryz.ntmps49
    go_wp2_with fail;refine(pi n _ hn).mono ?_;rintro e w1 ⟨rfl,rfl⟩;go_wp2;go_ret;exact⟨am (by simp[cn,hb]),rfl⟩
  · by_cases hl:1024<d.size
    · go_enter Tryz.func49,Tryz.ntmps49
      go_wp2_with fail;refine(pi n _ hn).mono ?_;rintro e w1 ⟨rfl,rfl⟩;go_wp2;go_ret;exact⟨am (by simp[cn,hb,hl]),rfl⟩
    · go_enter Tryz.func49,Tryz.ntmps49
      go_wp2_with fail;refine(pi n _ hn).mono ?_;rintro e w1 ⟨rfl,rfl⟩;go_wp2;go_ret;exact⟨am (by simp[cn,hb,hl]),rfl⟩
def aC(fs:Fs)(i:Nat):ByteArray:=(fs.getD i (⟨#[]⟩,⟨#[]⟩)).1
def aj(fs:Fs)(i:Nat):ByteArray:=(fs.getD i (⟨#[]⟩,⟨#[]⟩)).2
def mW(fs:Fs):List Value :=
  [.string (aC fs 0),.string (aj fs 0),.string (aC fs 1),.string (aj fs 1),.string (aC fs 2),.string (aj fs 2),.string (aC fs 3),.string (aj fs 3),.int .i64 fs.length]
def bm(w:World)(v t:Nat)(fs:Fs)(more:List Value):Prop:=w.heap[v]?=some (.cells (mW fs++more).toArray t (0,0))/\fs.length<=4
theorem bm.name{w:World}{v t:Nat}{fs:Fs}{more:List Value}(h:bm w v t fs more)(i:Nat)(hi:i<4) :
    w.cell? ⟨v,i*2,none⟩=some (.string (aC fs i))/\w.cell? ⟨v,i*2+1,none⟩=some (.string (aj fs i)):=by
  constructor <;> rw[aa h.1]
  · match i,hi with
    | 0,_=>rfl
    | 1,_=>rfl
    | 2,_=>rfl
    | 3,_=>rfl
  · match i,hi with
    | 0,_=>rfl
    | 1,_=>rfl
    | 2,_=>rfl
    | 3,_=>rfl
theorem bm.count{w:World}{v t:Nat}{fs:Fs}{more:List Value}(h:bm w v t fs more) :
    w.cell? ⟨v,8,none⟩=some (.int .i64 fs.length):=by
  rw[aa h.1];rfl
def cY(n:ByteArray):Fs->Nat->Int
  | [],_=>-1
  | f :: r,i=>if(f.1.toList==n.toList)=true then i else cY n r (i+1)
def bu(fs:Fs)(n:ByteArray):Int:=cY n fs 0
theorem Cy{α:Type}(l:List α)(k:Nat)(h:k<l.length):l.drop k=l[k] :: l.drop (k+1):=List.drop_eq_getElem_cons h
theorem vJ(fs:Fs)(k:Nat)(h:k<fs.length):aC fs k=fs[k].1:=by
  unfold aC;rw[List.getD_eq_getElem?_getD,List.getElem?_eq_getElem h];rfl
theorem yH(fs:Fs)(n:ByteArray)(k:Nat)(h:k<fs.length)(he:bu fs n=cY n (fs.drop k) k)(hb:((aC fs k).toList==n.toList)=true):bu fs n=k:=by
  rw[he,Cy _ _ h,cY,<-vJ fs k h,if_pos hb]
theorem vL(fs:Fs)(n:ByteArray)(k:Nat)(h:k<fs.length)(he:bu fs n=cY n (fs.drop k) k)(hb:((aC fs k).toList==n.toList)=false):bu fs n=cY n (fs.drop (k+1)) (k+1):=by
  rw[he,Cy _ _ h,cY,<-vJ fs k h,if_neg (by simp[hb])]
theorem vM(fs:Fs)(n:ByteArray)(k:Nat)(h:¬k<fs.length)(he:bu fs n=cY n (fs.drop k) k):bu fs n=-1:=by
  rw[he,List.drop_of_length_le (by omega),cY]
theorem kl(v t:Nat)(fs:Fs)(more:List Value)(n:ByteArray)(w:World)(h:bm w v t fs more) :
    Calls Tryz.prog 50 #[.pointer (some ⟨v,0,none⟩),.string n] w fun e w'=>e=.returned (.int .i64 (bu fs n))/\w'=w:=by
  have hcnt:=h.count;have hlen:=h.2;go_enter Tryz.func50,Tryz.ntmps50;go_wp2
  go_loopg [5] fs.length (fun g i wr=>∃k:Nat,k<=fs.length/\g=fs.length-k/\i=.int .i64 k/\Hid (bu fs n=cY n (fs.drop k) k)/\wr=w)
  case atStart=>exact⟨0,by omega,by omega,rfl,rfl,rfl⟩
  case round =>
    obtain⟨k,hk,hg,rfl,hall,rfl⟩:=hrel
    by_cases hlt:k<fs.length
    · obtain⟨q0,q1⟩:=h.name k (by omega)
      cases hb:((aC fs k).toList==n.toList)
      · have HM:Hid (bu fs n=cY n (fs.drop (k+1)) (k+1)):=vL fs n k hlt hall.out hb
        clear hall;go_wp2
        go_roundg (fs.length-(k+1))
        case measure=>omega
        case rel=>exact⟨k+1,by omega,rfl,by go_num,HM,rfl⟩
      · have HM:Hid (bu fs n=k):=yH fs n k hlt hall.out hb
        clear hall;go_wp2;go_ret;exact⟨am HM.out.symm,rfl⟩
    · have HM:Hid (bu fs n=-1):=vM fs n k hlt hall.out
      clear hall;go_wp2;go_ret;exact⟨am HM.out.symm,rfl⟩
theorem bm.free{w:World}{v t:Nat}{fs:Fs}{more:List Value}(h:bm w v t fs more)(i:Nat):w.frozen? ⟨v,i,none⟩=false:=ak h.1 i
theorem bm.kept{w w':World}{v t:Nat}{fs:Fs}{more:List Value}{S:List Nat}(h:bm w v t fs more)(hk:ab S w w')(hv:v∉S):bm w' v t fs more :=
 ⟨hk.get h.1 hv,h.2⟩
theorem bm.lt{w:World}{v t:Nat}{fs:Fs}{more:List Value}(h:bm w v t fs more):v<w.heap.size:=ae h.1
theorem Gi(v t k:Nat)(fs:Fs)(more:List Value)(w:World)(h:bm w v t fs more)(hk:k<fs.length) :
  Calls Tryz.prog 154 #[.pointer (some ⟨v,0,none⟩),.int .i64 k] w fun e w'=>e=.returned (.agg #[.string (aC fs k),.string (aj fs k)])/\ab [] w w':=by
 have hcnt:=h.count;have hlen:=h.2;have hlt:=h.lt;obtain⟨q0,q1⟩:=h.name k (by omega);go_enter Tryz.func154,Tryz.ntmps154;go_wp2;exact bodyPost_ret (v:=.agg #[.string (aC fs k),.string (aj fs k)]) (by simp[results,Tryz.results154,go_sem]) rfl ⟨rfl,(ab.refl _ _).alloc _⟩
theorem JM(fs:Fs)(more:List Value)(n d:ByteArray)(h:fs.length<4) :
  (((mW fs++more).set (fs.length*2) (.string n)).set (fs.length*2+1) (.string d)).set 8 (.int .i64 ((fs.length:Int)+1))=mW (fs++[(n,d)])++more:=by
 match fs,h with
 | [],_=>rfl
 | [a],_=>rfl
 | [a,b],_=>rfl
 | [a,b,c],_=>rfl
theorem JN(fs:Fs)(more:List Value)(n d:ByteArray)(k:Nat)(hk:k<fs.length)(h:fs.length<=4) :
  ((mW fs++more).set (k*2) (.string n)).set (k*2+1) (.string d)=mW (fs.set k (n,d))++more:=by
 match fs,h,k,hk with
 | [a],_,0,_=>rfl
 | [a,b],_,0,_=>rfl
 | [a,b],_,1,_=>rfl
 | [a,b,c],_,0,_=>rfl
 | [a,b,c],_,1,_=>rfl
 | [a,b,c],_,2,_=>rfl
 | [a,b,c,e],_,0,_=>rfl
 | [a,b,c,e],_,1,_=>rfl
 | [a,b,c,e],_,2,_=>rfl
 | [a,b,c,e],_,3,_=>rfl
theorem bm.added{w:World}{v t:Nat}{fs:Fs}{more:List Value}(h:bm w v t fs more)(n d:ByteArray)(hk:fs.length<4) :
  bm (((w.setCell ⟨v,fs.length*2,none⟩ (.string n)).setCell ⟨v,fs.length*2+1,none⟩ (.string d)).setCell ⟨v,8,none⟩ (.int .i64 ((fs.length:Int)+1))) v t (fs++[(n,d)]) more:=by
 have h4:=ah (ah (ah h.1 (fs.length*2) (.string n)) (fs.length*2+1) (.string d)) 8 (.int .i64 ((fs.length:Int)+1));refine⟨?_,by simp;omega⟩;rw[h4];simp only[List.setIfInBounds_toArray,JM fs more n d hk]
theorem bm.turned{w:World}{v t:Nat}{fs:Fs}{more:List Value}(h:bm w v t fs more)(n d:ByteArray)(k:Nat)(hk:k<fs.length) :
  bm ((w.setCell ⟨v,k*2,none⟩ (.string n)).setCell ⟨v,k*2+1,none⟩ (.string d)) v t (fs.set k (n,d)) more:=by
 have h4:=ah (ah h.1 (k*2) (.string n)) (k*2+1) (.string d);refine⟨?_,by simpa using h.2⟩;rw[h4];simp only[List.setIfInBounds_toArray,JN fs more n d k hk h.2]
theorem Cq(v t:Nat)(n d:ByteArray)(fs:Fs)(more:List Value)(w:World)(h:bm w v t fs more)(hk:fs.length<4) :
  Calls Tryz.prog 51 #[.pointer (some ⟨v,0,none⟩),.agg #[.string n,.string d]] w fun e w'=>e=.returned (.tuple #[])/\bm w' v t (fs++[(n,d)]) more/\ab [v] w w':=by
 have hcnt:=h.count;have hfr:=h.free;have hlt:=h.lt;obtain⟨q0,q1⟩:=h.name fs.length (by omega);go_enter Tryz.func51,Tryz.ntmps51;go_wp2
 go_region
 all_goals go_wp2
 all_goals go_end0
 exact⟨rfl,(h.added n d hk).kept ((ab.refl [] _).alloc _ |>.drew) (by simp),((((ab.refl _ _).setCell (Or.inl (by simp)) _).setCell (Or.inl (by simp)) _).setCell (Or.inl (by simp)) _).alloc _ |>.drew⟩
def gy(fs:Fs)(n d:ByteArray):Int×Fs :=
 if cn n d≠0 then(cn n d,fs)
 else if 0<=bu fs n then(0,fs.set (bu fs n).toNat (n,d))
 else if 4<=fs.length then(1,fs) else(0,fs++[(n,d)])
theorem yF(n:ByteArray)(fs:Fs)(i:Nat):cY n fs i=-1∨((i:Int)<=cY n fs i/\cY n fs i<i+fs.length):=by
 induction fs generalizing i with
 | nil=>exact Or.inl rfl
 | cons f r ih =>
  rw[cY];split
  ·exact Or.inr ⟨by omega,by simp;omega⟩
  ·rcases ih (i+1) with h | h
   ·exact Or.inl h
   ·exact Or.inr ⟨by omega,by simp;omega⟩
theorem nE(n:ByteArray)(fs:Fs):bu fs n=-1∨∃k:Nat,k<fs.length/\bu fs n=k:=by
 rcases yF n fs 0 with h | h
 ·exact Or.inl h
 ·refine Or.inr ⟨(bu fs n).toNat,?_,?_⟩ <;> (unfold bu;omega)
theorem Jx(v t:Nat)(n d:ByteArray)(fs:Fs)(more:List Value)(w:World)(h:bm w v t fs more)(hn:n.size<=1073741824)(hd:d.size<=4294967296) :
  Calls Tryz.prog 32 #[.pointer (some ⟨v,0,none⟩),.string n,.string d] w fun e w'=>e=.returned (.int .i64 (gy fs n d).1)/\bm w' v t (gy fs n d).2 more/\ab [v] w w':=by
 have hcnt:=h.count;have hlt:=h.lt;have hlen:=h.2
 by_cases hc:cn n d=0
 ·rcases nE n fs with hf | ⟨k,hk,hf⟩
  ·by_cases hl:4<=fs.length
   ·have HP:Hid (gy fs n d=(1,fs)):=by show gy fs n d=_;simp[gy,hc,hf,hl]
    have HC:Hid (cn n d=0):=hc;have HFF:Hid (bu fs n=-1):=hf;clear hc hf;go_enter Tryz.func32,Tryz.ntmps32;go_wp2_with fail;refine(lY n d _ hn hd).mono ?_;rintro e w1 ⟨rfl,rfl⟩;rw[HC.out];go_wp2_with fail;refine(kl v t fs more n _ (by exact h.kept ((ab.refl [] _).alloc _) (by simp))).mono ?_;rintro e w1 ⟨rfl,rfl⟩;rw[HFF.out];go_wp2;go_ret;exact⟨am (by rw[HP.out]),by rw[HP.out];exact h.kept ((ab.refl [] _).alloc _) (by simp),(ab.refl _ _).alloc _⟩
   ·have HP:Hid (gy fs n d=(0,fs++[(n,d)])):=by show gy fs n d=_;simp[gy,hc,hf,hl]
    have HC:Hid (cn n d=0):=hc;have HFF:Hid (bu fs n=-1):=hf;clear hc hf;go_enter Tryz.func32,Tryz.ntmps32;go_wp2_with fail;refine(lY n d _ hn hd).mono ?_;rintro e w1 ⟨rfl,rfl⟩;rw[HC.out];go_wp2_with fail;refine(kl v t fs more n _ (by exact h.kept ((ab.refl [] _).alloc _) (by simp))).mono ?_;rintro e w1 ⟨rfl,rfl⟩;rw[HFF.out];go_wp2_with fail;refine(Cq v t n d fs more _ (by exact h.kept ((ab.refl [] _).alloc _) (by simp)) (by omega)).mono ?_;rintro e w2 ⟨rfl,h2,hk2⟩;go_wp2;go_ret;exact⟨am (by rw[HP.out]),by rw[HP.out];exact h2,((ab.refl _ _).alloc _).trans hk2⟩
  ·have HP:Hid (gy fs n d=(0,fs.set k (n,d))):=by show gy fs n d=_;simp[gy,hc,hf]
   have HC:Hid (cn n d=0):=hc;have HFF:Hid (bu fs n=k):=hf;obtain⟨q0,q1⟩:=h.name k (by omega);have hfr:=h.free;clear hc hf;go_enter Tryz.func32,Tryz.ntmps32;go_wp2_with fail;refine(lY n d _ hn hd).mono ?_;rintro e w1 ⟨rfl,rfl⟩;rw[HC.out];go_wp2_with fail;refine(kl v t fs more n _ (by exact h.kept ((ab.refl [] _).alloc _) (by simp))).mono ?_;rintro e w1 ⟨rfl,rfl⟩;rw[HFF.out];go_wp2_with fail
   go_region
   all_goals go_wp2
   all_goals go_ret
   exact⟨am (by rw[HP.out]),by rw[HP.out];exact(h.turned n d k hk).kept ((ab.refl [] _).alloc _ |>.drew) (by simp),(((ab.refl _ _).setCell (Or.inl (by simp)) _).setCell (Or.inl (by simp)) _).alloc _ |>.drew⟩
 ·have HP:Hid (gy fs n d=(cn n d,fs)):=by show gy fs n d=_;simp[gy,hc]
  have hc':(cn n d != 0)=true:=by simp[hc]
  clear hc;go_enter Tryz.func32,Tryz.ntmps32;go_wp2_with fail;refine(lY n d _ hn hd).mono ?_;rintro e w1 ⟨rfl,rfl⟩;go_wp2;go_ret;exact⟨am (by rw[HP.out]),by rw[HP.out];exact h,ab.refl _ _⟩
structure Hd where
 ao:Option Addr
 cap:Nat
def Hd.blk(h:Hd):Option Nat:=h.ao.map (·.block)
structure dK where
 e:TypeId
 size:Nat
 n:Nat
 xs:List Value
def aA(w:World)(h:Hd)(r:dK):Prop:=w.ownsRow 0 r.e r.size (.slice h.ao r.n h.cap) r.n r.xs
theorem xu(h:Hd)(n:Nat):(Value.slice h.ao n h.cap).ownBlock=h.blk:=by
 unfold Hd.blk;cases h.ao <;> rfl
theorem aA.lt{w:World}{h:Hd}{r:dK}(o:aA w h r){k:Nat}(hk:h.blk=some k):k<w.heap.size :=
 (World.ownsRow.lt (h:=o) k (by rw[xu];exact hk)).2
theorem aA.moved{w w':World}{h:Hd}{r:dK}(o:aA w h r)(hw:∀k,h.blk=some k->w'.heap[k]?=w.heap[k]?):aA w' h r:=by
 refine⟨o.1,?_⟩
 rcases o.2 with hn | ⟨g,cap,cur,hv,hb,hh,h1,h2,h3,h4⟩
 ·exact Or.inl hn
 ·refine Or.inr ⟨g,cap,cur,hv,hb,?_,h1,h2,h3,h4⟩
  rw[hw g (by unfold Hd.blk;injection hv with hv;rw[hv];rfl)];exact hh
theorem aA.ways{w:World}{h:Hd}{r:dK}(o:aA w h r) :
  (h=⟨none,0⟩/\r.n=0/\r.xs=[])∨∃g cur,h.ao=some ⟨g,0,none⟩/\w.heap[g]?=some (.cells cur r.e (0,0))/\r.n<=h.cap/\h.cap<=maxLen/\cur.size=h.cap*r.size/\cur.toList.take (r.n*r.size)=r.xs:=by
 rcases o.2 with ⟨hv,hn⟩ | ⟨g,cap,cur,hv,hb,hh,h1,h2,h3,h4⟩
 ·left
  injection hv with a1 a2 a3
  refine⟨by cases h;simp_all,hn,List.eq_nil_of_length_eq_zero (by rw[o.1,hn];simp)⟩
 ·right
  injection hv with a1 a2 a3
  subst a3;exact⟨g,cur,a1,hh,h1,h2,h3,h4⟩
theorem bK(g j:Nat):(⟨g,0,none⟩:Addr).add j=⟨g,j,none⟩:=by
 simp only[Addr.add]
 split
 ·next h=>subst h;rfl
 ·simp
theorem aA.cell{w:World}{h:Hd}{r:dK}(o:aA w h r){g:Nat}(hg:h.ao=some ⟨g,0,none⟩)(j:Nat)(u:Value)(hj:r.xs[j]?=some u):w.cell? ⟨g,j,none⟩=some u:=by
 have:=o.cells (g:=g) (by rw[xu];unfold Hd.blk;rw[hg];rfl) j u hj;rw[bK]at this;exact this
theorem aM{P:Program}(w:World){ops:Array Oper}{rest:List Oper}{o:Oper}{a:Act}{Q:Exit->Act->World->Prop}
  (hg:o.guard=none) (s x:Operand) (t:TypeId) (hop:o.op=Op.call { callee:=Callee.builtin Builtin.append,args:=#[s,x],argTypes:=#[t,t] })
  (i:TypeInfo) (z:Value) (bytes:Nat) (h:Hd) (r:dK) (h1:P.underlying t=some (.slice r.e)) (h2:P.info? r.e=some i) (h3:i.zero=some z) (h4:i.size=r.size) (h5:i.bytes=bytes) (h6:z.cells.size=r.size) (h7:0<r.size)
  (hs:a.eval s=.slice h.ao r.n h.cap) (hown:aA w h r)
  (ad:Addr) (m c:Nat) (news:List Value) (hx:a.eval x=.slice (some ad) m c) (hn:news.length=m*r.size) (hc:∀j u,news[j]?=some u->w.cell? (ad.add j)=some u) (h1c:∀u∈news,u.oneCell'=true)
  (hm:0<m) (b1:r.n+m<=maxLen) (b2:(r.n+m)*bytes<=140737488355328)
  (hK:∀g cap' w',aA w' ⟨some ⟨g,0,none⟩,cap'⟩ ⟨r.e,r.size,r.n+m,r.xs++news⟩->w.grownBy w' h.blk->(h.blk=some g∨w.heap.size<=g)->wpList P ops Q rest (a.put o.dst (.slice (some ⟨g,0,none⟩) (r.n+m) cap')) w') :
  wpList P ops Q (o :: rest) a w:=by
 rcases hown.ways with ⟨e1,e2,e3⟩ | ⟨g,cur,e1,e2,e3,e4,e5,e6⟩
 ·refine wpList_append_grows w hg s x t hop r.e i z r.size bytes h1 h2 h3 h4 h5 h6 h7 none 0 0 [] (by rw[hs,e1,e2]) (fun _=>⟨rfl,rfl⟩) (by simp) (by intro b hb;cases hb) ad m c news hx hn hc h1c (by omega) (by omega) (by rw[e2]at b2;exact b2) ?_
  intro v' w' hw hgr
  rcases hw.2 with ⟨_,q⟩ | ⟨g,cap',cur,q1,q2,q3,q4,q5,q6,q7⟩
  ·omega
  ·have:=hK g cap' w' ⟨by have:=hw.1;simpa [e3,e2] using this,Or.inr ⟨g,cap',cur,by simp,Nat.zero_le _,q3,by simpa [e2] using q4,q5,q6,by simpa [e2,e3] using q7⟩⟩ (by rw[e1];exact hgr) (Or.inr q2)
   rw[q1];simpa [e2] using this
 ·by_cases hf:r.n+m<=h.cap
  ·refine wpList_append_fits w hg s x t hop 0 r.e i r.size h1 h2 h4 g r.n h.cap r.xs (by rw[hs,e1]) (by have:=hown;unfold aA at this;rw[e1]at this;exact this) ad m c news hx hn hc h1c hf ?_
   intro w' hw hgr;exact hK g h.cap w' hw (by unfold Hd.blk;rw[e1];exact hgr) (Or.inl (by unfold Hd.blk;rw[e1];rfl))
  ·refine wpList_append_grows w hg s x t hop r.e i z r.size bytes h1 h2 h3 h4 h5 h6 h7 (some ⟨g,0,none⟩) r.n h.cap r.xs (by rw[hs,e1]) (by intro hh;cases hh) hown.1 (by intro b hb j u hj;cases hb;rw[bK];exact hown.cell e1 j u hj) ad m c news hx hn hc h1c (by omega) b1 b2 ?_
   intro v' w' hw hgr
   rcases hw.2 with ⟨_,q⟩ | ⟨g',cap',cur',q1,q2,q3,q4,q5,q6,q7⟩
   ·omega
   ·have:=hK g' cap' w' ⟨hw.1,Or.inr ⟨g',cap',cur',rfl,Nat.zero_le _,q3,q4,q5,q6,q7⟩⟩ ⟨hgr.os,hgr.tape,hgr.output,hgr.size,fun k hk _=>hgr.block k hk (by simp)⟩ (Or.inr q2)
    rw[q1];exact this
theorem vl{P:Program}(w:World)(dT sT ty elem:TypeId)(g cap size:Nat)(h:Hd)(r:dK)(cur:Array Value)(t:TypeId)
  (hu:P.underlying dT=some (.slice elem)) (hs:(P.info? elem).map (·.size)=some size) (hr:r.size=size) (hg:w.heap[g]?=some (.cells cur t (0,0))) (ho:aA w h r) (hsz:cur.size=r.n*size) (h1:∀v∈r.xs,v.oneCell'=true) :
  (Builtin.copy_ #[dT,sT] ty #[.slice (some ⟨g,0,none⟩) r.n cap,.slice h.ao r.n h.cap]).run P w=.ok (goInt r.n) (w.setRow g r.xs.toArray):=by
 have hl:r.xs.length=r.n*size:=by have:=ho.1;rw[hr]at this;exact this
 have hst:=run_storeCells_at P g 0 t r.xs 0 cur w hg (by simp;omega) h1
 have e0:(cur.toList.take (0+0)++r.xs++cur.toList.drop (0+0+r.xs.length))=r.xs:=by
  simp;omega
 rw[e0]at hst
 have hfc:(Builtin.firstCells size r.n (.slice h.ao r.n h.cap)).run P w=.ok r.xs.toArray w:=by
  rcases ho.ways with ⟨e1,e2,e3⟩ | ⟨g',cur',e1,_⟩
  ·rw[e1,e3];exact run_firstCells_none w _ _ _ _
  ·rw[e1];exact run_firstCells_some w size r.n ⟨g',0,none⟩ r.n h.cap r.xs hl (fun j v hj=>by rw[bK];exact ho.cell e1 j v hj)
 cases hq:P.info? elem with
 | none=>simp[hq]at hs
 | some i =>
  have hi:i.size=size:=by simpa [hq] using hs
  simp[Builtin.copy_,run_underlying hu,Builtin.lenOf,sizeOf,typeInfo,hq,hi,hfc,hst]
theorem rO{S:List Nat}{a w:World}(h:ab S a w){g:Nat}(hp:g∈S∨a.heap.size<=g)(c:Array Value):ab S a (w.setRow g c) :=
 ⟨h.os,h.tape,h.output,by have:=h.size;simp[World.setRow];omega,fun k hk hs=>by
  rw[setRow_other w g k c (by rintro rfl;exact hp.elim hs (fun hp=>by omega))];exact h.block k hk hs⟩
theorem qL{P:Program}(w:World)(dT sT ty:TypeId)(g cap:Nat)(h:Hd)(r:dK)(cur:Array Value)(t:TypeId)
  (hu:P.underlying dT=some (.slice r.e)) (hs:(P.info? r.e).map (·.size)=some r.size) (hg:w.heap[g]?=some (.cells cur t (0,0))) (ho:aA w h r) (hsz:cur.size=r.n*r.size) (h1:∀v∈r.xs,v.oneCell'=true) :
  ∃w',(Builtin.copy_ #[dT,sT] ty #[.slice (some ⟨g,0,none⟩) r.n cap,.slice h.ao r.n h.cap]).run P w=.ok (goInt r.n) w'/\w'.heap[g]?=some (.cells r.xs.toArray t (0,0))/\ab [g] w w'/\w'.heap.size=w.heap.size :=
 ⟨_,vl (P:=P) w dT sT ty r.e g cap r.size h r cur t hu hs rfl hg ho hsz h1,setRow_heap w g _ _ t _ hg,rO (ab.refl _ _) (Or.inl (by simp)) _,by simp[World.setRow]⟩
theorem aA.made{w:World}{g:Nat}{r:dK}(hg:w.heap[g]?=some (.cells r.xs.toArray r.e (0,0)))(hl:r.xs.length=r.n*r.size)(hn:r.n<=maxLen):aA w ⟨some ⟨g,0,none⟩,r.n⟩ r :=
 ⟨hl,Or.inr ⟨g,r.n,r.xs.toArray,rfl,Nat.zero_le _,hg,Nat.le_refl _,hn,by simpa using hl,by simp[<-hl]⟩⟩
theorem nT{P:Program}(w:World)(t ty:TypeId)(i:TypeInfo)(z:Value)(bytes:Nat)(h:Hd)(r:dK)(h1:P.underlying t=some (.slice r.e))(h2:P.info? r.e=some i)(h3:i.zero=some z)(h4:i.size=r.size)(h5:i.bytes=bytes)(h6:z.cells.size=r.size)(h7:0<r.size)
  (hown:aA w h r) (ad:Addr) (m c:Nat) (news:List Value) (hn:news.length=m*r.size) (hc:∀j u,news[j]?=some u->w.cell? (ad.add j)=some u) (h1c:∀u∈news,u.oneCell'=true)
  (hm:0<m) (b1:r.n+m<=maxLen) (b2:(r.n+m)*bytes<=140737488355328) :
  ∃g cap' w',(Builtin.append_ #[t,t] ty #[.slice h.ao r.n h.cap,.slice (some ad) m c]).run P w=.ok (.slice (some ⟨g,0,none⟩) (r.n+m) cap') w' /\
   aA w' ⟨some ⟨g,0,none⟩,cap'⟩ ⟨r.e,r.size,r.n+m,r.xs++news⟩/\w.grownBy w' h.blk/\(h.blk=some g∨w.heap.size<=g):=by
 rcases hown.ways with ⟨e1,e2,e3⟩ | ⟨g,cur,e1,e2,e3,e4,e5,e6⟩
 ·obtain⟨v',w',hrun,hw,hgr,_⟩:=run_append_own (P:=P) w w.heap.size t ty r.e i z r.size bytes h1 h2 h3 h4 h5 h6 h7 (.slice none 0 0) 0 [] (World.ownsRow_nil w _ r.e r.size) ad m c news hn hc h1c (by omega) (by rw[e2]at b2;exact b2) (Nat.le_refl _)
  rcases hw.2 with ⟨_,q⟩ | ⟨g,cap',cur,q1,q2,q3,q4,q5,q6,q7⟩
  ·omega
  ·refine⟨g,cap',w',?_,⟨by have:=hw.1;simpa [e3,e2] using this,Or.inr ⟨g,cap',cur,by simp,Nat.zero_le _,q3,by simpa [e2] using q4,q5,q6,by simpa [e2,e3] using q7⟩⟩,?_,Or.inr q2⟩
   ·rw[e1,e2,hrun,q1]
   ·rw[e1];exact hgr
 ·by_cases hf:r.n+m<=h.cap
  ·obtain⟨w',hrun,hw,hgr⟩:=run_append_fits (P:=P) w 0 t ty r.e i r.size h1 h2 h4 g r.n h.cap r.xs (by have:=hown;unfold aA at this;rw[e1]at this;exact this) ad m c news hn hc h1c hf
   exact⟨g,h.cap,w',by rw[e1,hrun],hw,by unfold Hd.blk;rw[e1];exact hgr,Or.inl (by unfold Hd.blk;rw[e1];rfl)⟩
  ·obtain⟨v',w',hrun,hw,hgr⟩:=run_append_arg_grows (P:=P) w t ty r.e i z r.size bytes h1 h2 h3 h4 h5 h6 h7 ⟨g,0,none⟩ r.n h.cap r.xs hown.1 (by intro j u hj;rw[bK];exact hown.cell e1 j u hj) ad m c news hn hc (by omega) b1 b2
   rcases hw.2 with ⟨_,q⟩ | ⟨g',cap',cur',q1,q2,q3,q4,q5,q6,q7⟩
   ·omega
   ·exact⟨g',cap',w',by rw[e1,hrun,q1],⟨hw.1,Or.inr ⟨g',cap',cur',rfl,Nat.zero_le _,q3,q4,q5,q6,q7⟩⟩,⟨hgr.os,hgr.tape,hgr.output,hgr.size,fun k hk _=>hgr.block k hk (by simp)⟩,Or.inr q2⟩
theorem ce{P:Program}{ops:Array Oper}{o:Oper}{a:Act}{w:World}{K:Act->World->Prop}{Q:Exit->Act->World->Prop}{E:Prop}
  (hg:o.guard=none) (s x:Operand) (t:TypeId) (hop:o.op=Op.call { callee:=Callee.builtin Builtin.append,args:=#[s,x],argTypes:=#[t,t] })
  (i:TypeInfo) (z:Value) (bytes:Nat) (h:Hd) (r:dK) (h1:P.underlying t=some (.slice r.e)) (h2:P.info? r.e=some i) (h3:i.zero=some z) (h4:i.size=r.size) (h5:i.bytes=bytes) (h6:z.cells.size=r.size) (h7:0<r.size)
  (hs:a.eval s=.slice h.ao r.n h.cap) (hown:aA w h r)
  (ad:Addr) (m c:Nat) (news:List Value) (hx:a.eval x=.slice (some ad) m c) (hn:news.length=m*r.size) (hc:∀j u,news[j]?=some u->w.cell? (ad.add j)=some u) (h1c:∀u∈news,u.oneCell'=true)
  (hm:0<m) (b1:r.n+m<=maxLen) (b2:(r.n+m)*bytes<=140737488355328)
  (hK:∀g cap' w',aA w' ⟨some ⟨g,0,none⟩,cap'⟩ ⟨r.e,r.size,r.n+m,r.xs++news⟩->w.grownBy w' h.blk->(h.blk=some g∨w.heap.size<=g)->K (a.put o.dst (.slice (some ⟨g,0,none⟩) (r.n+m) cap')) w') :
  if Region.wanted o (yielded ops a.tmps)=true then Oper.wp P o a w K Q else E:=by
 have hw:Region.wanted o (yielded ops a.tmps)=true:=by simp[Region.wanted,hg]
 rw[if_pos hw];obtain⟨g,cap',w',hrun,r1,r2,r3⟩:=nT (P:=P) w t o.type i z bytes h r h1 h2 h3 h4 h5 h6 h7 hown ad m c news hn hc h1c hm b1 b2;unfold Oper.wp;simp[execOp,hop,resolve,invoke,builtin,hs,hx,hrun,Result.andThen];exact hK g cap' w' r1 r2 r3
theorem dn{P:Program}(w:World)(t e:TypeId)(i:TypeInfo)(z:Value)(ht:P.underlying t=some (.slice e))(hi:P.info? e=some i)(hz:i.zero=some z)(n size:Nat)(hsz:i.size=size)(hb:i.bytes*n<=281474976710656)(hn:n<=1073741824) :
  (Instr.makeSlice t (.int .i64 n) (.int .i64 n)).run P w=.ok (.slice (some ⟨w.heap.size,0,none⟩) n n) (w.alloc (.cells (madeCells z.cells (n*size)) e)):=by
 have:=run_make (P:=P) w t e i z ht hi hz .i64 .i64 n n (by omega) (Int.le_refl _) (by have:=Int.ofNat_le.2 hb;rw[Int.natCast_mul]at this;exact this) (by omega);simpa [hsz] using this
def na(w:World)(x:Nat)(fs:Fs)(rep:Bool)(a b c:Value):Prop:=bm w x 80 fs [.bool rep,a,b,c]
def Jl:Value:=.slice none 0 0
def lN(w:World)(x:Nat)(fs:Fs):Prop:=na w x fs false Jl Jl Jl
def bW(w:World)(x:Nat)(fs:Fs):Prop:=∃rep a b c,na w x fs rep a b c
theorem lN.anyR{w:World}{x:Nat}{fs:Fs}(h:lN w x fs):bW w x fs:=⟨_,_,_,_,h⟩
theorem na.anyR{w:World}{x:Nat}{fs:Fs}{rep:Bool}{a b c:Value}(h:na w x fs rep a b c):bW w x fs:=⟨_,_,_,_,h⟩
theorem lN.kept{w w':World}{x:Nat}{fs:Fs}{S:List Nat}(h:lN w x fs)(k:ab S w w')(hx:x∉S):lN w' x fs:=bm.kept h k hx
theorem bW.kept{w w':World}{x:Nat}{fs:Fs}{S:List Nat}(h:bW w x fs)(k:ab S w w')(hx:x∉S):bW w' x fs:=by
 obtain⟨r,a,b,c,h⟩:=h;exact⟨r,a,b,c,bm.kept h k hx⟩
theorem bW.lt{w:World}{x:Nat}{fs:Fs}(h:bW w x fs):x<w.heap.size:=by
 obtain⟨r,a,b,c,h⟩:=h;exact bm.lt h
theorem na.cells{w:World}{x:Nat}{fs:Fs}{rep:Bool}{a b c:Value}(h:na w x fs rep a b c) :
  w.cell? ⟨x,9,none⟩=some (.bool rep)/\w.cell? ⟨x,10,none⟩=some a/\w.cell? ⟨x,11,none⟩=some b/\w.cell? ⟨x,12,none⟩=some c:=by
 refine⟨?_,?_,?_,?_⟩ <;> (rw[aa h.1];rfl)
def zR(w:World)(x:Nat)(rep:Bool)(a b c:Value):World:=(((w.setCell ⟨x,9,none⟩ (.bool rep)).setCell ⟨x,10,none⟩ a).setCell ⟨x,11,none⟩ b).setCell ⟨x,12,none⟩ c
theorem na.turn{w:World}{x:Nat}{fs:Fs}{rep:Bool}{a b c:Value}(h:na w x fs rep a b c)(rep':Bool)(a' b' c':Value):na (zR w x rep' a' b' c') x fs rep' a' b' c':=by
 refine⟨?_,h.2⟩;unfold zR;rw[ah (ah (ah (ah h.1 9 (.bool rep')) 10 a') 11 b') 12 c'];rfl
theorem BS{S:List Nat}{w w':World}(h:ab S w w'){x:Nat}(hx:x∈S∨w.heap.size<=x)(rep:Bool)(a b c:Value):ab S w (zR w' x rep a b c) :=
 (((h.setCell hx _).setCell hx _).setCell hx _).setCell hx _
theorem Jk(w:World):Calls Tryz.prog 27 #[] w fun e w'=>e=.returned (.pointer (some ⟨w.heap.size,0,none⟩))/\lN w' w.heap.size []/\ab [] w w':=by
 go_enter Tryz.func27,Tryz.ntmps27;go_wp2;go_ret;exact⟨rfl,⟨heap_alloc_new _ _,by simp⟩,(ab.refl _ _).alloc _⟩
theorem tB(x:Nat)(fs:Fs)(w:World)(h:bW w x fs) :
  Calls Tryz.prog 33 #[.pointer (some ⟨x,0,none⟩)] w fun e w'=>e=.returned (.tuple #[])/\lN w' x fs/\ab [x] w w':=by
 obtain⟨rep,a,b,c,h⟩:=h;obtain⟨c9,c10,c11,c12⟩:=h.cells;have hf:=bm.free h;have HT:=(show Hid _ from h.turn false (.slice none 0 0) (.slice none 0 0) (.slice none 0 0));unfold zR at HT;have hxw:=bm.lt h;go_enter Tryz.func33,Tryz.ntmps33;go_wp2;go_end0;exact⟨rfl,HT.out,BS (ab.refl _ _) (Or.inl (by simp)) _ _ _ _⟩
theorem Iu(x:Nat)(n d:ByteArray)(fs:Fs)(w:World)(h:bW w x fs)(hn:n.size<=1073741824)(hd:d.size<=4294967296) :
  Calls Tryz.prog 14 #[.pointer (some ⟨x,0,none⟩),.string n,.string d] w fun e w'=>e=.returned (.int .i64 (gy fs n d).1)/\bW w' x (gy fs n d).2/\((gy fs n d).1=0->lN w' x (gy fs n d).2)/\ab [x] w w':=by
 obtain⟨rep,a,b,c,h⟩:=h;have PF:=Jx x 80 n d fs [.bool rep,a,b,c] w h hn hd;have HPF:=(show Hid _ from PF);clear PF;generalize gy fs n d=pf at *;obtain⟨e0,fs'⟩:=pf;simp only at HPF ⊢
 cases he:(e0==0)
 ·go_enter Tryz.func14,Tryz.ntmps14
  go_wp2_with fail;refine Calls.mono HPF.out ?_;rintro e w2 ⟨rfl,h2,hk2⟩;go_wp2;go_ret;exact⟨rfl,⟨rep,a,b,c,h2⟩,fun e=>by subst e;simp at he,hk2⟩
 ·go_enter Tryz.func14,Tryz.ntmps14
  go_wp2_with fail;refine Calls.mono HPF.out ?_;rintro e w2 ⟨rfl,h2,hk2⟩;go_wp2_with fail;refine(tB x fs' w2 ⟨rep,a,b,c,h2⟩).mono ?_;rintro e w3 ⟨rfl,h3,hk3⟩;go_wp2;go_ret;exact⟨rfl,h3.anyR,fun _=>h3,hk2.trans hk3⟩
def di(f:Nat->Int):Nat->Int
 | 0=>0
 | n+1=>if(di f n==0)=true then f n else di f n
theorem mA{f:Nat->Int}{k n:Nat}(h0:di f k=0)(h:(f k==0)=false)(hk:k<n):di f n=f k:=by
 induction n with
 | zero=>omega
 | succ n ih =>
  rw[di]
  by_cases e:k=n
  ·subst e;rw[h0];rfl
  ·rw[ih (by omega),if_neg (by rw[h];simp)]
def Ad(fs:Fs)(i:Nat):Int:=if(cn (aC fs i) (aj fs i)==0)=false then cn (aC fs i) (aj fs i) else if 0<=bu (fs.take i) (aC fs i) then 4 else 0
def fZ(fs:Fs):Int:=if 4<fs.length then 1 else di (Ad fs) fs.length
def js(fs0 fs:Fs):Fs:=if fZ fs=0 then fs else fs0
theorem l6{fs0 fs:Fs}{r:Int}(h:fZ fs=r)(hr:r≠0):js fs0 fs=fs0:=by unfold js;rw[if_neg (by rw[h];exact hr)]
theorem vW{fs0 fs:Fs}(h:fZ fs=0):js fs0 fs=fs:=by unfold js;rw[if_pos h]
theorem KI{f:Nat->Int}{n:Nat}(h:di f n=0):∀i,i<n->f i=0:=by
 induction n with
 | zero=>intro i hi;omega
 | succ n ih =>
  rw[di]at h
  split at h
  ·next h0 =>
   intro i hi
   by_cases e:i=n
   ·rw[e];exact h
   ·exact ih (eq_of_beq h0) i (by omega)
  ·next h0=>rw[h]at h0;exact absurd rfl h0
theorem Ji{fs:Fs}(h:fZ fs=0):fs.length<=4/\∀j,j<fs.length->(aj fs j).size<=1024:=by
 unfold fZ at h
 split at h
 ·cases h
 ·refine⟨by omega,fun j hj=>?_⟩
  have h1:=KI h j hj;unfold Ad at h1
  split at h1
  ·next e=>rw[h1]at e;cases e
  ·next e =>
   unfold cn at e
   split at e
   ·exact absurd rfl e
   ·split at e
    ·exact absurd rfl e
    ·omega
def ke(fs:Fs):Prop:=∀j,(aC fs j).size<=1073741824/\(aj fs j).size<=1073741824
theorem xc:(Tryz.prog.info? 68).map (fun i=>(i.zero,i.size,i.bytes))=some (some (.agg #[.string ⟨#[]⟩,.string ⟨#[]⟩]),2,32):=by kernel_rfl
def JZ(f:ByteArray×ByteArray):List Value:=[.string f.1,.string f.2]
def oD(fs:Fs):List Value:=fs.flatMap JZ
def b8(fs:Fs):dK:=⟨68,2,fs.length,oD fs⟩
theorem sD(fs:Fs):(oD fs).length=fs.length*2:=by
 induction fs with
 | nil=>rfl
 | cons t L ih=>rw[oD,List.flatMap_cons,List.length_append,show L.flatMap JZ=oD L from rfl,ih];simp[JZ];omega
theorem tH(fs:Fs)(j:Nat)(h:j<fs.length):(oD fs)[j*2]?=some (.string (aC fs j))/\(oD fs)[j*2+1]?=some (.string (aj fs j)):=by
 induction fs generalizing j with
 | nil=>simp at h
 | cons a L ih =>
  have e:oD (a :: L)=.string a.1 :: .string a.2 :: oD L:=rfl
  cases j with
  | zero=>exact⟨rfl,rfl⟩
  | succ j =>
   obtain⟨h1,h2⟩:=ih j (by simpa using h);rw[e,show(j+1)*2=j*2+1+1 by omega];exact⟨h1,h2⟩
theorem CD(fs:Fs)(k:Nat)(n d:ByteArray)(h:k<fs.length):((oD fs).set (k*2) (.string n)).set (k*2+1) (.string d)=oD (fs.set k (n,d)):=by
 induction fs generalizing k with
 | nil=>simp at h
 | cons a L ih =>
  have e:∀x:ByteArray×ByteArray,oD (x :: L)=.string x.1 :: .string x.2 :: oD L:=fun _=>rfl
  cases k with
  | zero=>rfl
  | succ k =>
   rw[List.set_cons_succ,show(k+1)*2=k*2+1+1 by omega,e]
   show _=Value.string a.1 :: Value.string a.2 :: oD (L.set k (n,d))
   rw[<-ih k (by simpa using h)];rfl
theorem ut(fs:Fs)(t:ByteArray×ByteArray):(⟨(b8 fs).e,(b8 fs).size,(b8 fs).n+1,(b8 fs).xs++JZ t⟩:dK)=b8 (fs++[t]):=by
 simp[b8,oD]
theorem CC(fs:Fs):∀u∈oD fs,u.oneCell'=true:=by
 intro u hu;obtain⟨x,-,h⟩:=List.mem_flatMap.1 hu;unfold JZ at h;simp only[List.mem_cons,List.not_mem_nil,or_false]at h
 rcases h with rfl | rfl <;> rfl
end Go.Proofs.YtpddjjabfbfifaaGreat
