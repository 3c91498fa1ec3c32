import Derived.Deep.RegionLaw
import Derived.Test.YtlbhbocbakijbaaGreatG02
namespace Go.Proofs.YtlbhbocbakijbaaGreat
open Go.RowKit
set_option maxHeartbeats 0
def aA(i:lY):Bool:=i.rule==0 && !i.fin
theorem bO(t n:ByteArray)(r l c:Int)(f:Bool)(w:World) :
    Calls Tryz.prog 104 #[.agg #[.string t,.int .i64 r,.bool f,.string n,.int .i64 l,.int .i64 c]] w fun e w'=>e=.returned (.bool (r==0 && !f))/\aa [] w w':=by
  cases hr:(r==0)
  · go_enter Tryz.func104,Tryz.ntmps104
    go_wp2;go_ret;exact⟨GQ (by simp),(aa.refl _ _).alloc _⟩
  · go_enter Tryz.func104,Tryz.ntmps104
    go_wp2;go_ret;exact⟨GQ (by simp),(aa.refl _ _).alloc _⟩
def dh(s:ByteArray):Bool:=(List.range s.size).any (fun i=>aw s i==36)
def it(s:ByteArray):Bool:=(List.range s.size).any (fun i=>decide (1<=i)&&(aw s (i-1)==36)&&((aw s i==40)||(aw s i==41)))
theorem ol{n:Nat}{p:Nat->Bool}(i:Nat)(h:i<n)(hp:p i=true):(List.range n).any p=true:=by
  rw[List.any_eq_true];exact⟨i,by simpa using h,hp⟩
theorem r7{n:Nat}{p:Nat->Bool}(h:∀i,i<n->p i=false):(List.range n).any p=false:=by
  rw[List.any_eq_false];intro i hi;simp[h i (by simpa using hi)]
theorem cM(s:ByteArray)(w:World)(hs:s.size<=1073741824) :
    Calls Tryz.prog 142 #[.string s] w fun e w'=>e=.returned (.bool (dh s))/\w'=w:=by
  go_enter Tryz.func142,Tryz.ntmps142;go_wp2
  go_loopg [3] s.size (fun g i wr=>∃k:Nat,k<=s.size/\g=s.size-k/\i=.int .i64 k/\Hid (∀i,i<k->(aw s i==36)=false)/\wr=w)
  case atStart=>exact⟨0,by omega,by omega,rfl,fun i h=>by omega,rfl⟩
  case round =>
    obtain⟨k,hk,hg,rfl,hall,rfl⟩:=hrel
    by_cases hlt:k<s.size
    · cases hb:((s[k].toNat:Int)==36)
      · go_wp2
        go_roundg (s.size-(k+1))
        case measure=>omega
        case rel =>
          refine⟨k+1,by omega,rfl,by go_num,?_,rfl⟩;intro i hi
          by_cases e:i=k
          · subst e;rw[aU s i hlt];exact hb
          · exact hall.out i (by omega)
      · have HY:Hid (dh s=true):=ol k hlt (by rw[aU s k hlt];exact hb)
        go_wp2;go_ret;exact⟨GQ HY.out.symm,rfl⟩
    · have HY:Hid (dh s=false):=r7 (fun i hi=>hall.out i (by omega))
      go_wp2;go_ret;exact⟨GQ HY.out.symm,rfl⟩
theorem nJ(s:ByteArray)(w:World)(hs:s.size<=1073741824) :
    Calls Tryz.prog 141 #[.string s] w fun e w'=>e=.returned (.bool (it s))/\w'=w:=by
  go_enter Tryz.func141,Tryz.ntmps141;go_wp2
  go_loopg [3] (s.size-1) (fun g i wr=>∃k:Nat,1<=k/\(k<=s.size∨k=1)/\g=s.size-k/\i=.int .i64 k/\Hid (∀i,i<k->1<=i->((aw s (i-1)==36)&&((aw s i==40)||(aw s i==41)))=false)/\wr=w)
  case atStart=>exact⟨1,by omega,by omega,rfl,rfl,fun i h h'=>by omega,rfl⟩
  case round =>
    obtain⟨k,hk1,hk,hg,rfl,hall,rfl⟩:=hrel
    by_cases hlt:k<s.size
    · have hlt1:k-1<s.size:=by omega
      have hq:∀b:Bool,(((s[k-1].toNat:Int)==36)&&(((s[k].toNat:Int)==40)||((s[k].toNat:Int)==41)))=b->((aw s (k-1)==36)&&((aw s k==40)||(aw s k==41)))=b :=
        fun b h=>by rw[aU s k hlt,aU s (k-1) hlt1];exact h
      have HQ:Hid (∀b:Bool,(((s[k-1].toNat:Int)==36)&&(((s[k].toNat:Int)==40)||((s[k].toNat:Int)==41)))=b->((aw s (k-1)==36)&&((aw s k==40)||(aw s k==41)))=b):=hq;clear hq;go_wp2
      all_goals first
        | (go_ret
           refine⟨GQ ?_,rfl⟩;refine(ol (p:=fun i=>decide (1<=i)&&(aw s (i-1)==36)&&((aw s i==40)||(aw s i==41))) k hlt ?_).symm;have:=HQ.out true (by simp_all);simp only[Bool.and_assoc,this];simp[hk1])
        | (go_roundg (s.size-(k+1))
           case measure=>omega
           case rel =>
             refine⟨k+1,by omega,by omega,rfl,by go_num,?_,rfl⟩;intro i hi h1
             by_cases e:i=k
             · subst e;exact HQ.out false (by simp_all)
             · exact hall.out i (by omega) h1)
    · have HY:Hid (it s=false):=r7 (fun i hi=>by
        by_cases h1:1<=i
        · have:=hall.out i (by omega) h1;simp only[Bool.and_assoc,this];simp
        · simp[h1])
      go_wp2;go_ret;exact⟨GQ HY.out.symm,rfl⟩
theorem dR(d:ByteArray)(k:Nat)(h:k<=d.size):k<=(aH d k).2/\(aH d k).2<=d.size/\(aA (aH d k).1=true->k<(aH d k).2):=by
 have a:=iY d k h;have b:=fR d (skip d k) a.2;unfold aH;simp only
 split
 ·exact⟨by omega,b.2,by simp[aA]⟩
 ·split
  ·exact⟨by omega,b.2,by simp[aA]⟩
  ·exact⟨by simp only;omega,b.2,fun _=>by simp only;omega⟩
def bw(d:ByteArray):Nat->Nat->lY×Nat
 | 0,k=>(⟨⟨#[]⟩,3,false,k⟩,k)
 | f+1,k =>
  if aA (aH d k).1=true/\¬(aH d k).1.text.toList=[36,41] then
   if it (aH d k).1.text=true then(⟨⟨#[]⟩,2,false,(aH d k).1.pos⟩,(aH d k).2) else bw d f (aH d k).2
  else if(aH d k).1.fin=true then(⟨⟨#[]⟩,3,false,(aH d k).1.pos⟩,(aH d k).2) else aH d k
def aB(d:ByteArray)(k:Nat):lY×Nat:=bw d (d.size-k+1) k
theorem oK(d:ByteArray)(f k:Nat)(hk:k<=d.size)(hf:d.size-k+1<=f):bw d f k=aB d k:=by
 unfold aB
 suffices h:∀f g k,k<=d.size->d.size-k+1<=f->d.size-k+1<=g->bw d f k=bw d g k from h _ _ _ hk hf (Nat.le_refl _)
 clear hf hk f k;intro f
 induction f with
 | zero=>intro g k _ h;omega
 | succ f ih =>
  intro g k hk hf hg
  cases g with
  | zero=>omega
  | succ g =>
   rw[bw,bw]
   split
   ·next h =>
    have hl:=dR d k hk;have hl2:=hl.2.2 h.1
    split
    ·rfl
    ·exact ih g (aH d k).2 hl.2.1 (by omega) (by omega)
   ·rfl
theorem lF(d:ByteArray)(k:Nat)(hk:k<=d.size)(h1:aA (aH d k).1=true)(h2:((aH d k).1.text.toList == [36,41])=false)(h3:it (aH d k).1.text=false):aB d k=aB d (aH d k).2:=by
 have hl:=dR d k hk;have hl2:=hl.2.2 h1
 conv=>lhs;unfold aB
 rw[bw,if_pos ⟨h1,by simpa using h2⟩,if_neg (by simp[h3]),oK d _ _ hl.2.1 (by omega)]
theorem ju(d:ByteArray)(k:Nat)(h1:aA (aH d k).1=true)(h2:((aH d k).1.text.toList == [36,41])=false)(h3:it (aH d k).1.text=true):aB d k=(⟨⟨#[]⟩,2,false,(aH d k).1.pos⟩,(aH d k).2):=by
 unfold aB;rw[bw,if_pos ⟨h1,by simpa using h2⟩,if_pos h3]
theorem jw(d:ByteArray)(k:Nat)(h1:aA (aH d k).1=false)(h2:(aH d k).1.fin=true):aB d k=(⟨⟨#[]⟩,3,false,(aH d k).1.pos⟩,(aH d k).2):=by
 unfold aB;rw[bw,if_neg (by simp[h1]),if_pos h2]
theorem j8(d:ByteArray)(k:Nat)(h1:aA (aH d k).1=false)(h2:(aH d k).1.fin=false):aB d k=aH d k:=by
 unfold aB;rw[bw,if_neg (by simp[h1]),if_neg (by simp[h2])]
theorem i7(d:ByteArray)(k:Nat)(h1:aA (aH d k).1=true)(h2:((aH d k).1.text.toList == [36,41])=true):aB d k=aH d k:=by
 unfold aB;rw[bw,if_neg (by intro h;exact h.2 (by simpa using h2))];rw[if_neg (by intro h;simp[aA,h]at h1)]
theorem dJ(d:ByteArray)(k:Nat)(hk:k<=d.size):k<=(aB d k).2/\(aB d k).2<=d.size:=by
 unfold aB
 suffices h:∀f k,k<=d.size->k<=(bw d f k).2/\(bw d f k).2<=d.size from h _ _ hk
 clear hk k;intro f
 induction f with
 | zero=>intro k hk;simp[bw,hk]
 | succ f ih =>
  intro k hk;have hl:=dR d k hk;rw[bw]
  split
  ·split
   ·exact⟨hl.1,hl.2.1⟩
   ·have:=ih (aH d k).2 hl.2.1;omega
  ·split
   ·exact⟨hl.1,hl.2.1⟩
   ·exact⟨hl.1,hl.2.1⟩
def cn(d:ByteArray):Nat->Nat->lY×Nat
 | 0,k=>(⟨⟨#[]⟩,0,true,k⟩,k)
 | f+1,k =>
  if aA (aH d k).1=true/\(aH d k).1.text.toList=[36,40] then
   if aA (aB d (aH d k).2).1=true then cn d f (aB d (aH d k).2).2 else aB d (aH d k).2
  else aH d k
def ak(d:ByteArray)(k:Nat):lY×Nat:=cn d (d.size-k+1) k
theorem ko(d:ByteArray)(f k:Nat)(hk:k<=d.size)(hf:d.size-k+1<=f):cn d f k=ak d k:=by
 unfold ak
 suffices h:∀f g k,k<=d.size->d.size-k+1<=f->d.size-k+1<=g->cn d f k=cn d g k from h _ _ _ hk hf (Nat.le_refl _)
 clear hf hk f k;intro f
 induction f with
 | zero=>intro g k _ h;omega
 | succ f ih =>
  intro g k hk hf hg
  cases g with
  | zero=>omega
  | succ g =>
   rw[cn,cn]
   split
   ·next h =>
    have hl:=dR d k hk;have hl2:=hl.2.2 h.1;have hc:=dJ d (aH d k).2 hl.2.1
    split
    ·exact ih g _ hc.2 (by omega) (by omega)
    ·rfl
   ·rfl
theorem sK(d:ByteArray)(k:Nat)(hk:k<=d.size)(h1:aA (aH d k).1=true)(h2:((aH d k).1.text.toList == [36,40])=true)(h3:aA (aB d (aH d k).2).1=true) :
  ak d k=ak d (aB d (aH d k).2).2:=by
 have hl:=dR d k hk;have hl2:=hl.2.2 h1;have hc:=dJ d (aH d k).2 hl.2.1
 conv=>lhs;unfold ak
 rw[cn,if_pos ⟨h1,by simpa using h2⟩,if_pos h3,ko d _ _ hc.2 (by omega)]
theorem kp(d:ByteArray)(k:Nat)(h1:aA (aH d k).1=true)(h2:((aH d k).1.text.toList == [36,40])=true)(h3:aA (aB d (aH d k).2).1=false) :
  ak d k=aB d (aH d k).2:=by
 unfold ak;rw[cn,if_pos ⟨h1,by simpa using h2⟩,if_neg (by simp[h3])]
theorem gJ(d:ByteArray)(k:Nat)(h:aA (aH d k).1=false∨((aH d k).1.text.toList == [36,40])=false):ak d k=aH d k:=by
 unfold ak;rw[cn,if_neg (by rintro ⟨a,b⟩;rcases h with h | h;simp[h]at a;simp[b]at h)]
theorem cT(d:ByteArray)(k:Nat)(hk:k<=d.size):k<=(ak d k).2/\(ak d k).2<=d.size/\(aA (ak d k).1=true->k<(ak d k).2):=by
 unfold ak
 suffices h:∀f k,k<=d.size->k<=(cn d f k).2/\(cn d f k).2<=d.size/\(aA (cn d f k).1=true->k<(cn d f k).2) from h _ _ hk
 clear hk k;intro f
 induction f with
 | zero=>intro k hk;simp[cn,hk,aA]
 | succ f ih =>
  intro k hk;have hl:=dR d k hk;have hc:=dJ d (aH d k).2 hl.2.1;rw[cn]
  split
  ·next h =>
   have hl2:=hl.2.2 h.1
   split
   ·have:=ih (aB d (aH d k).2).2 hc.2;omega
   ·omega
  ·exact hl
def fN(w:World)(r:Nat)(n d:ByteArray)(i:lY):Prop :=
 w.heap[r]?=some (.cells #[.string i.text,.int .i64 i.rule,.bool i.fin,.string n,.int .i64 (aD d i.pos),.int .i64 (bb d i.pos)] 182 (0,0))
theorem fN.cells{w:World}{r:Nat}{n d t:ByteArray}{u:Int}{f:Bool}{p:Nat}(h:fN w r n d ⟨t,u,f,p⟩) :
  w.cell? ⟨r,0,none⟩=some (.string t)/\w.cell? ⟨r,1,none⟩=some (.int .i64 u)/\w.cell? ⟨r,2,none⟩=some (.bool f) /\
  w.cell? ⟨r,3,none⟩=some (.string n)/\w.cell? ⟨r,4,none⟩=some (.int .i64 (aD d p))/\w.cell? ⟨r,5,none⟩=some (.int .i64 (bb d p)):=by
 refine⟨?_,?_,?_,?_,?_,?_⟩ <;> (rw[ab h];rfl)
theorem fN.kept{w w':World}{r:Nat}{n d:ByteArray}{i:lY}{S:List Nat}(h:fN w r n d i)(hk:aa S w w')(hb:r∉S):fN w' r n d i:=hk.get h hb
theorem ki{w:World}{r:Nat}{n d:ByteArray}{i:lY}(h:fN w r n d i)(j:lY) :
  fN ((((((w.setCell ⟨r,0,none⟩ (.string j.text)).setCell ⟨r,1,none⟩ (.int .i64 j.rule)).setCell ⟨r,2,none⟩ (.bool j.fin)).setCell ⟨r,3,none⟩ (.string n)).setCell ⟨r,4,none⟩ (.int .i64 (aD d j.pos))).setCell ⟨r,5,none⟩ (.int .i64 (bb d j.pos))) r n d j:=by
 have:=ae (ae (ae (ae (ae (ae h 0 (.string j.text)) 1 (.int .i64 j.rule)) 2 (.bool j.fin)) 3 (.string n)) 4 (.int .i64 (aD d j.pos))) 5 (.int .i64 (bb d j.pos));unfold fN;rw[this];simp
theorem nA{w:World}{b r:Nat}{o:Obj}(h:w.heap[b]?=some o)(hne:b≠r)(a0 a1 a2 a3 a4 a5:Value) :
  ((((((w.setCell ⟨r,0,none⟩ a0).setCell ⟨r,1,none⟩ a1).setCell ⟨r,2,none⟩ a2).setCell ⟨r,3,none⟩ a3).setCell ⟨r,4,none⟩ a4).setCell ⟨r,5,none⟩ a5).heap[b]?=some o:=by
 rw[Below.heap_setCell _ _ _ _ hne,Below.heap_setCell _ _ _ _ hne,Below.heap_setCell _ _ _ _ hne,Below.heap_setCell _ _ _ _ hne,Below.heap_setCell _ _ _ _ hne,Below.heap_setCell _ _ _ _ hne];exact h
theorem lh(d:ByteArray)(k:Nat)(hd:d.size<=1024):(aH d k).1.text.size<=1024:=by
 unfold aH;simp only
 split
 ·simp[ByteArray.size]
 ·split
  ·simp[ByteArray.size]
  ·simp;omega
set_option maxRecDepth 100000 in
theorem tI(b k:Nat)(n d:ByteArray)(w:World)(hd:d.size<=1024)(hk:k<=d.size)(h:bi w b n d k) :
  Calls Tryz.prog 120 #[.pointer (some ⟨b,0,none⟩)] w fun e w'=>e=.returned (dq n d (aB d k).1)/\bi w' b n d (aB d k).2/\aa [b] w w':=by
 have hbw:=ac h;go_enter Tryz.func120,Tryz.ntmps120;go_wp2_with fail;refine(ox b k n d _ hd hk (by exact h.kept ((aa.refl [] _).alloc _) (by simp))).mono ?_;rintro e w1 ⟨rfl,h1,hk1⟩;have hr1:w1.heap[w.heap.size]?=some (.cells hU 182 (0,0)):=hk1.get (heap_alloc_new _ _) (by simp;omega);have hkw:aa [b] w w1:=((aa.refl _ _).alloc _).trans hk1;have hb1:=ac h1;have hR1:=ac hr1;simp only[dq];go_wp2
 go_loopg [] (d.size-k) (fun g wr=>∃j,j<=d.size/\g=d.size-j/\Hid (aB d k=aB d j)/\bi wr b n d (aH d j).2/\fN wr w1.heap.size n d (aH d j).1/\wr.heap[w.heap.size]?=some (.cells hU 182 (0,0))/\aa [b] w wr)
 case atStart=>exact⟨k,hk,rfl,rfl,h1.kept ((aa.refl [] _).alloc _) (by simp),heap_alloc_new _ _,((aa.refl [] _).alloc _).get hr1 (by simp),hkw.alloc _⟩
 case round =>
  obtain⟨j,hj,hg,hs,h2,hi,hr,hkp⟩:=hrel;have hrl:=dR d j hj;have htx:=lh d j hd;have L1:Hid (_->_->_->aB d j=_):=lF d j hj;have L2:Hid (_->_->_->aB d j=_):=ju d j;have L3:Hid (_->_->aB d j=_):=jw d j;have L4:Hid (_->_->aB d j=_):=j8 d j;have L5:Hid (_->_->aB d j=_):=i7 d j;generalize hrr:aH d j=r at *;obtain⟨⟨t,u,f,p⟩,z⟩:=r;have HR:Hid (aH d j=(⟨t,u,f,p⟩,z)):=hrr;clear hrr;simp only at h2 hi hrl htx;obtain⟨q0,q1,q2,q3,q4,q5⟩:=hi.cells;have hRw:=ac hr;have hbr:=ac h2;have hIw:=ac hi
  cases hw:(u==0 && !f)
  ·cases hf:f
   ·have HF:Hid (aB d j=(⟨t,u,false,p⟩,z)):=by have:=L4.out (by simpa [aA] using hw) hf;rw[hf]at this;exact this
    subst hf;have hw':(u==0)=false:=by simpa using hw
    clear L1 L2 L3 L4 L5;go_wp2_with fail;refine(bO t n u (aD d p) (bb d p) _ _).mono ?_;rintro e w2 ⟨rfl,hk2⟩;have hi2:=hi.kept hk2 (by simp);have h22:=h2.kept hk2 (by simp);have hr2:=hk2.get hr (by simp);have hkp2:=hkp.trans (hk2.mono (by simp));clear q0 q1 q2 q3 q4 q5 hi h2 hr hkp hk2;obtain⟨q0,q1,q2,q3,q4,q5⟩:=hi2.cells;obtain⟨z0,z1,z2,z3,z4,z5⟩:=eq hr2;have y:=an hr2;go_wp2
    exact bodyPost_ret (v:=dq n d ⟨t,u,false,p⟩) (by simp[results,Tryz.results120,go_sem,dq,z0,z1,z2,z3,z4,z5]) rfl
     (by rw[hs.out,HF.out];exact⟨rfl,d9 h22 (by omega) _ _ _ _ _ _,eH hkp2 (Nat.le_refl _) _ _ _ _ _ _⟩)
   ·have HF:Hid (aB d j=(⟨⟨#[]⟩,3,false,p⟩,z)):=L3.out (by simpa [aA] using hw) hf
    subst hf;clear L1 L2 L3 L4 L5;go_wp2_with fail;refine(bO t n u (aD d p) (bb d p) _ _).mono ?_;rintro e w2 ⟨rfl,hk2⟩;have hi2:=hi.kept hk2 (by simp);have h22:=h2.kept hk2 (by simp);have hr2:=hk2.get hr (by simp);have hkp2:=hkp.trans (hk2.mono (by simp));clear q0 q1 q2 q3 q4 q5 hi h2 hr hkp hk2;obtain⟨q0,q1,q2,q3,q4,q5⟩:=hi2.cells;obtain⟨z0,z1,z2,z3,z4,z5⟩:=eq hr2;have y:=an hr2;go_wp2
    exact bodyPost_ret (v:=dq n d ⟨⟨#[]⟩,3,false,p⟩) (by simp[results,Tryz.results120,go_sem,dq,z0,z1,z2,z3,z4,z5]) rfl
     (by rw[hs.out,HF.out];exact⟨rfl,d9 h22 (by omega) _ _ _ _ _ _,eH hkp2 (Nat.le_refl _) _ _ _ _ _ _⟩)
  ·cases hx:(t.toList == [36,41])
   ·cases hy:it t
    ·have HF:Hid (aB d j=aB d z):=L1.out hw hx hy
     clear L1 L2 L3 L4 L5;go_wp2_with fail;refine(bO t n u (aD d p) (bb d p) _ _).mono ?_;rintro e w2 ⟨rfl,hk2⟩;have hi2:=hi.kept hk2 (by simp);have h22:=h2.kept hk2 (by simp);have hr2:=hk2.get hr (by simp);have hkp2:=hkp.trans (hk2.mono (by simp));clear q0 q1 q2 q3 q4 q5 hi h2 hr hkp hk2;obtain⟨q0,q1,q2,q3,q4,q5⟩:=hi2.cells;go_wp2_with fail;refine(nJ t _ (by omega)).mono ?_;rintro e w3 ⟨rfl,rfl⟩;go_wp2_with fail;refine(ox b z n d _ hd hrl.2.1 h22).mono ?_;rintro e w4 ⟨rfl,h4,hk4⟩;have hi4:=hi2.kept hk4 (by simp;omega);have hr4:=hk4.get hr2 (by simp;omega);have hkp4:=hkp2.trans hk4;have yy:=an hi4;have hI4:=ac hi4;clear q0 q1 q2 q3 q4 q5;obtain⟨q0,q1,q2,q3,q4,q5⟩:=hi4.cells;simp only[dq];go_wp2
     go_roundg (d.size-z)
     case measure=>have:=hrl.2.2 hw;omega
     case rel=>exact⟨z,hrl.2.1,rfl,hs.out.trans HF.out,d9 h4 (by omega) _ _ _ _ _ _,ki hi4 _,nA hr4 (by omega) _ _ _ _ _ _,eH hkp4 (by omega) _ _ _ _ _ _⟩
    ·have HF:Hid (aB d j=(⟨⟨#[]⟩,2,false,p⟩,z)):=L2.out hw hx hy
     clear L1 L2 L3 L4 L5;go_wp2_with fail;refine(bO t n u (aD d p) (bb d p) _ _).mono ?_;rintro e w2 ⟨rfl,hk2⟩;have hi2:=hi.kept hk2 (by simp);have h22:=h2.kept hk2 (by simp);have hr2:=hk2.get hr (by simp);have hkp2:=hkp.trans (hk2.mono (by simp));clear q0 q1 q2 q3 q4 q5 hi h2 hr hkp hk2;obtain⟨q0,q1,q2,q3,q4,q5⟩:=hi2.cells;go_wp2_with fail;refine(nJ t _ (by omega)).mono ?_;rintro e w3 ⟨rfl,rfl⟩;obtain⟨z0,z1,z2,z3,z4,z5⟩:=eq hr2;have y:=an hr2;go_wp2
     exact bodyPost_ret (v:=dq n d ⟨⟨#[]⟩,2,false,p⟩) (by simp[results,Tryz.results120,go_sem,dq,z0,z1,z2,z3,z4,z5]) rfl
      (by rw[hs.out,HF.out];exact⟨rfl,d9 h22 (by omega) _ _ _ _ _ _,eH hkp2 (Nat.le_refl _) _ _ _ _ _ _⟩)
   ·have HF:Hid (aB d j=(⟨t,u,f,p⟩,z)):=L5.out hw hx
    clear L1 L2 L3 L4 L5;have hf:f=false:=by cases f;rfl;simp at hw
    subst hf;have hw':(u==0)=true:=by simpa using hw
    go_wp2_with fail;refine(bO t n u (aD d p) (bb d p) _ _).mono ?_;rintro e w2 ⟨rfl,hk2⟩;have hi2:=hi.kept hk2 (by simp);have h22:=h2.kept hk2 (by simp);have hr2:=hk2.get hr (by simp);have hkp2:=hkp.trans (hk2.mono (by simp));clear q0 q1 q2 q3 q4 q5 hi h2 hr hkp hk2;obtain⟨q0,q1,q2,q3,q4,q5⟩:=hi2.cells;obtain⟨z0,z1,z2,z3,z4,z5⟩:=eq hr2;have y:=an hr2;go_wp2
    exact bodyPost_ret (v:=dq n d ⟨t,u,false,p⟩) (by simp[results,Tryz.results120,go_sem,dq,z0,z1,z2,z3,z4,z5]) rfl
     (by rw[hs.out,HF.out];exact⟨rfl,d9 h22 (by omega) _ _ _ _ _ _,eH hkp2 (Nat.le_refl _) _ _ _ _ _ _⟩)
set_option maxRecDepth 100000 in
theorem mB(b k:Nat)(n d:ByteArray)(w:World)(hd:d.size<=1024)(hk:k<=d.size)(h:bi w b n d k) :
  Calls Tryz.prog 103 #[.pointer (some ⟨b,0,none⟩)] w fun e w'=>e=.returned (dq n d (ak d k).1)/\bi w' b n d (ak d k).2/\aa [b] w w':=by
 have hbw:=ac h;go_enter Tryz.func103,Tryz.ntmps103;go_wp2_with fail;refine(ox b k n d _ hd hk (by exact h.kept ((aa.refl [] _).alloc _) (by simp))).mono ?_;rintro e w1 ⟨rfl,h1,hk1⟩;have hr1:w1.heap[w.heap.size]?=some (.cells hU 182 (0,0)):=hk1.get (heap_alloc_new _ _) (by simp;omega);have hkw:aa [b] w w1:=((aa.refl _ _).alloc _).trans hk1;have hb1:=ac h1;have hR1:=ac hr1;simp only[dq];go_wp2
 go_loopg [4] (d.size-k) (fun g _ wr=>∃j,j<=d.size/\g=d.size-j/\Hid (ak d k=ak d j)/\bi wr b n d (aH d j).2/\fN wr w1.heap.size n d (aH d j).1/\wr.heap[w.heap.size]?=some (.cells hU 182 (0,0))/\aa [b] w wr)
 case atStart=>exact⟨k,hk,rfl,rfl,h1.kept ((aa.refl [] _).alloc _) (by simp),heap_alloc_new _ _,((aa.refl [] _).alloc _).get hr1 (by simp),hkw.alloc _⟩
 case round =>
  obtain⟨j,hj,hg,hs,h2,hi,hr,hkp⟩:=hrel;have hrl:=dR d j hj;have htx:=lh d j hd;have L1:Hid (_->_->_->ak d j=_):=sK d j hj;have L2:Hid (_->_->_->ak d j=_):=kp d j;have L3:Hid (_->ak d j=_):=gJ d j;generalize hrr:aH d j=r at *;obtain⟨⟨t,u,f,p⟩,z⟩:=r;have HR:Hid (aH d j=(⟨t,u,f,p⟩,z)):=hrr;clear hrr;simp only at h2 hi hrl htx;obtain⟨q0,q1,q2,q3,q4,q5⟩:=hi.cells;have hRw:=ac hr;have hbr:=ac h2;have hIw:=ac hi
  cases hw:(u==0 && !f)
  ·have HF:Hid (ak d j=(⟨t,u,f,p⟩,z)):=L3.out (Or.inl hw)
   clear L1 L2 L3;go_wp2_with fail;refine(bO t n u (aD d p) (bb d p) _ _).mono ?_;rintro e w2 ⟨rfl,hk2⟩;have hi2:=hi.kept hk2 (by simp);have h22:=h2.kept hk2 (by simp);have hr2:=hk2.get hr (by simp);have hkp2:=hkp.trans (hk2.mono (by simp));clear q0 q1 q2 q3 q4 q5 hi h2 hr hkp hk2;obtain⟨q0,q1,q2,q3,q4,q5⟩:=hi2.cells;obtain⟨z0,z1,z2,z3,z4,z5⟩:=eq hr2;have y:=an hr2;go_wp2
   exact bodyPost_ret (v:=dq n d ⟨t,u,f,p⟩) (by simp[results,Tryz.results103,go_sem,dq,z0,z1,z2,z3,z4,z5]) rfl
    (by rw[hs.out,HF.out];exact⟨rfl,d9 h22 (by omega) _ _ _ _ _ _,eH hkp2 (Nat.le_refl _) _ _ _ _ _ _⟩)
  ·cases hx:(t.toList == [36,40])
   ·have HF:Hid (ak d j=(⟨t,u,f,p⟩,z)):=L3.out (Or.inr hx)
    clear L1 L2 L3;go_wp2_with fail;refine(bO t n u (aD d p) (bb d p) _ _).mono ?_;rintro e w2 ⟨rfl,hk2⟩;have hi2:=hi.kept hk2 (by simp);have h22:=h2.kept hk2 (by simp);have hr2:=hk2.get hr (by simp);have hkp2:=hkp.trans (hk2.mono (by simp));clear q0 q1 q2 q3 q4 q5 hi h2 hr hkp hk2;obtain⟨q0,q1,q2,q3,q4,q5⟩:=hi2.cells;obtain⟨z0,z1,z2,z3,z4,z5⟩:=eq hr2;have y:=an hr2;go_wp2
    exact bodyPost_ret (v:=dq n d ⟨t,u,f,p⟩) (by simp[results,Tryz.results103,go_sem,dq,z0,z1,z2,z3,z4,z5]) rfl
     (by rw[hs.out,HF.out];exact⟨rfl,d9 h22 (by omega) _ _ _ _ _ _,eH hkp2 (Nat.le_refl _) _ _ _ _ _ _⟩)
   ·have hcl:=dJ d z hrl.2.1
    have L4:Hid (_->ak d j=ak d _):=fun h=>L1.out hw hx h
    have L5:Hid (_->ak d j=_):=fun h=>L2.out hw hx h
    clear L1 L2 L3;generalize hcc:aB d z=c at *;obtain⟨⟨ct,cu,cf,cp⟩,cz⟩:=c;have HC:Hid (aB d z=(⟨ct,cu,cf,cp⟩,cz)):=hcc;clear hcc;simp only at hcl;go_wp2_with fail;refine(bO t n u (aD d p) (bb d p) _ _).mono ?_;rintro e w2 ⟨rfl,hk2⟩;have hi2:=hi.kept hk2 (by simp);have h22:=h2.kept hk2 (by simp);have hr2:=hk2.get hr (by simp);have hkp2:=hkp.trans (hk2.mono (by simp));clear q0 q1 q2 q3 q4 q5 hi h2 hr hkp hk2;obtain⟨q0,q1,q2,q3,q4,q5⟩:=hi2.cells;go_wp2_with fail;refine(tI b z n d _ hd hrl.2.1 h22).mono ?_;rintro e w3 ⟨rfl,h3,hk3⟩;have hi3:=hi2.kept hk3 (by simp;omega);have hr3:=hk3.get hr2 (by simp;omega);have hkp3:=hkp2.trans hk3;have hb3:=ac h3;have hI3:=ac hi3;have hR3:=ac hr3;simp only[dq];rw[HC.out];simp only;go_wp2_with fail;refine(bO ct n cu (aD d cp) (bb d cp) _ _).mono ?_;rintro e w4 ⟨rfl,hk4⟩;have hl4:fN w4 w3.heap.size n d ⟨ct,cu,cf,cp⟩:=hk4.get (heap_alloc_new _ _) (by simp);have hi4:=(hi3.kept ((aa.refl [] _).alloc _) (by simp)).kept hk4 (by simp);have h4:=(h3.kept ((aa.refl [] _).alloc _) (by simp)).kept hk4 (by simp);have hr4:=hk4.get (((aa.refl [] _).alloc _).get hr3 (by simp)) (by simp);have hkp4:=(hkp3.alloc _).trans (hk4.mono (by simp));rw[HC.out]at h4;simp only at h4;have hb4:=ac h4;have hI4:=ac hi4;have hR4:=ac hr4;clear q0 q1 q2 q3 q4 q5 hi2 hr2 hkp2 hk4 hi3 hr3 hkp3 hk3 h3 h22;obtain⟨p0,p1,p2,p3,p4,p5⟩:=hl4.cells
    cases hcw:(cu==0 && !cf)
    ·have HF:Hid (ak d j=(⟨ct,cu,cf,cp⟩,cz)):=L5.out hcw
     clear L4 L5;obtain⟨z0,z1,z2,z3,z4,z5⟩:=eq hr4;have y:=an hr4;go_wp2
     exact bodyPost_ret (v:=dq n d ⟨ct,cu,cf,cp⟩) (by simp[results,Tryz.results103,go_sem,dq,z0,z1,z2,z3,z4,z5]) rfl
      (by rw[hs.out,HF.out];exact⟨rfl,d9 h4 (by omega) _ _ _ _ _ _,eH hkp4 (Nat.le_refl _) _ _ _ _ _ _⟩)
    ·have HF:Hid (ak d j=ak d cz):=L4.out hcw
     clear L4 L5;go_wp2_with fail;refine(ox b cz n d _ hd hcl.2 h4).mono ?_;rintro e w5 ⟨rfl,h5,hk5⟩;have hi5:=hi4.kept hk5 (by simp;omega);have hr5:=hk5.get hr4 (by simp;omega);have hkp5:=hkp4.trans hk5;have yy:=an hi5;have hI5:=ac hi5;obtain⟨q0,q1,q2,q3,q4,q5⟩:=hi5.cells;simp only[dq];go_wp2
     go_roundg (d.size-cz)
     case measure=>have:=hrl.2.2 hw;omega
     case rel=>exact⟨cz,hcl.2,rfl,hs.out.trans HF.out,d9 h5 (by omega) _ _ _ _ _ _,ki hi5 _,nA hr5 (by omega) _ _ _ _ _ _,eH hkp5 (by omega) _ _ _ _ _ _⟩
structure Pl where
  file:ByteArray
  line:Int
  col:Int
structure St where
  kind:Int
  label:ByteArray
  symbols:List ByteArray
  proof:List (ByteArray×Pl)
  fin:Pl
  til:Nat
structure Db where
  labels:List ByteArray
  constants:List ByteArray
  variables:List ByteArray
  active:List ByteArray
  typed:List ByteArray
  blocks:List (Nat×Nat)
  sts:List St
  rbl:List Nat
  kind:Int
  label:ByteArray
  symbols:List ByteArray
  inProof:Bool
  proof:List (ByteArray×Pl)
def strs(l:List ByteArray):List Value:=l.map Value.string
def kr(l:List (Nat×Nat)):List Value:=l.flatMap (fun p=>[.int .i64 p.1,.int .i64 p.2])
def iO(l:List Nat):List Value:=l.map (fun(n:Nat)=>.int .i64 n)
def lC(p:ByteArray×Pl):List Value:=[.string p.1,.string p.2.file,.int .i64 p.2.line,.int .i64 p.2.col]
def jc(l:List (ByteArray×Pl)):List Value:=l.flatMap lC
def Aq(s:St)(a b:Hd):List Value :=
  [.int .i64 s.kind,.string s.label,.slice a.ao s.symbols.length a.cap,.slice b.ao s.proof.length b.cap,.string s.fin.file,.int .i64 s.fin.line,.int .i64 s.fin.col,.int .i64 s.til]
def il(l:List St)(H:Nat->Hd):List Value:=l.zipIdx.flatMap (fun p=>Aq p.1 (H (10+2*p.2)) (H (11+2*p.2)))
def am(l:List ByteArray):eI:=⟨9,1,l.length,strs l⟩
def jp(l:List (Nat×Nat)):eI:=⟨241,2,l.length,kr l⟩
def aP(l:List Nat):eI:=⟨3,1,l.length,iO l⟩
def dZ(l:List (ByteArray×Pl)):eI:=⟨199,4,l.length,jc l⟩
def eP(l:List St)(H:Nat->Hd):eI:=⟨144,8,l.length,il l H⟩
def bS(l:List St)(i:Nat):List ByteArray:=match l[i]? with | some s=>s.symbols | none=>[]
def mK(l:List St)(i:Nat):List (ByteArray×Pl):=match l[i]? with | some s=>s.proof | none=>[]
def inner(l:List St)(n:Nat):eI:=if n % 2=0 then am (bS l (n / 2)) else dZ (mK l (n / 2))
def aF(d:Db)(H:Nat->Hd):Nat->eI
  | 0=>am d.labels
  | 1=>am d.constants
  | 2=>am d.variables
  | 3=>am d.active
  | 4=>am d.typed
  | 5=>jp d.blocks
  | 6=>eP d.sts H
  | 7=>aP d.rbl
  | 8=>am d.symbols
  | 9=>dZ d.proof
  | n+10=>inner d.sts n
def bu(d:Db)(H:Nat->Hd):List Value :=
  [.slice (H 0).ao d.labels.length (H 0).cap,.slice (H 1).ao d.constants.length (H 1).cap,.slice (H 2).ao d.variables.length (H 2).cap,.slice (H 3).ao d.active.length (H 3).cap,
   .slice (H 4).ao d.typed.length (H 4).cap,.slice (H 5).ao d.blocks.length (H 5).cap,.slice (H 6).ao d.sts.length (H 6).cap,.slice (H 7).ao d.rbl.length (H 7).cap,
   .int .i64 d.kind,.string d.label,.slice (H 8).ao d.symbols.length (H 8).cap,.bool d.inProof,.slice (H 9).ao d.proof.length (H 9).cap]
def cG{α:Type}(H:Nat->α)(i:Nat)(h:α):Nat->α:=fun j=>if j=i then h else H j
theorem bN{α:Type}(H:Nat->α)(i:Nat)(h:α):cG H i h i=h:=by simp[cG]
theorem bd{α:Type}(H:Nat->α)(i j:Nat)(h:α)(hj:j≠i):cG H i h j=H j:=by simp[cG,hj]
theorem Dj{α:Type}(H:Nat->α)(i:Nat):cG H i (H i)=H:=by funext j;unfold cG;split <;> simp_all
theorem qd(l:List St)(H H':Nat->Hd)(h:∀j,10<=j->H' j=H j):il l H'=il l H:=by
  unfold il;congr 1;funext p;rw[h _ (by omega),h _ (by omega)]
theorem CQ(d:Db)(H:Nat->Hd)(i:Nat)(h:Hd)(hi:i<10)(j:Nat):aF d (cG H i h) j=aF d H j:=by
  have e:il d.sts (cG H i h)=il d.sts H:=qd _ _ _ (fun j hj=>bd _ _ _ _ (by omega));unfold aF
  split <;> first | rfl | (simp only[eP,e])
def cK(H:Nat->Hd)(k:Nat):Prop:=∃i,(H i).blk=some k
structure dw(P:Nat->Prop)(w w':World):Prop where
  os:w'.os=w.os
  tape:w'.tape=w.tape
  output:w'.output=w.output
  size:w.heap.size<=w'.heap.size
  block:∀k,k<w.heap.size->¬P k->w'.heap[k]?=w.heap[k]?
theorem dw.refl(P:Nat->Prop)(w:World):dw P w w:=⟨rfl,rfl,rfl,Nat.le_refl _,fun _ _ _=>rfl⟩
theorem aa.toP{S:List Nat}{w w':World}(h:aa S w w'){P:Nat->Prop}(hP:∀k,k∈S->k<w.heap.size->P k):dw P w w' :=
  ⟨h.os,h.tape,h.output,h.size,fun k hk hn=>h.block k hk (fun hm=>hn (hP k hm hk))⟩
theorem dw.get{P:Nat->Prop}{w w':World}(h:dw P w w'){k:Nat}{o:Obj}(ho:w.heap[k]?=some o)(hk:¬P k):w'.heap[k]?=some o:=(h.block k (ac ho) hk).trans ho
theorem dw.still{P:Nat->Prop}{a b c:World}(h:dw P a b)(k:aa [] b c):dw P a c :=
  ⟨k.os.trans h.os,k.tape.trans h.tape,k.output.trans h.output,Nat.le_trans h.size k.size,fun i hi hn=>(k.block i (Nat.lt_of_lt_of_le hi h.size) (by simp)).trans (h.block i hi hn)⟩
theorem dw.setCell{P:Nat->Prop}{a w:World}(h:dw P a w){p:Addr}(hp:P p.block∨a.heap.size<=p.block)(u:Value):dw P a (w.setCell p u) :=
  ⟨h.os,h.tape,h.output,by have:=h.size;simp[World.setCell];omega,fun k hk hs=>by
    rw[Below.heap_setCell _ _ _ _ (by rintro rfl;exact hp.elim hs (fun hp=>by omega))];exact h.block k hk hs⟩
structure aE(w:World)(b t:Nat)(pre post:List Value)(d:Db)(H:Nat->Hd):Prop where
  blk:w.heap[b]?=some (.cells (pre++(bu d H++post)).toArray t (0,0))
  own:∀i,au w (H i) (aF d H i)
  apart:∀i j,i≠j->(H i).blk=none∨(H i).blk≠(H j).blk
  off:∀i,(H i).blk≠some b
theorem aE.lt{w:World}{b t:Nat}{pre post:List Value}{d:Db}{H:Nat->Hd}(h:aE w b t pre post d H):b<w.heap.size:=ac h.blk
theorem aE.free{w:World}{b t:Nat}{pre post:List Value}{d:Db}{H:Nat->Hd}(h:aE w b t pre post d H)(i:Nat):w.frozen? ⟨b,i,none⟩=false:=an h.blk i
theorem aE.inlt{w:World}{b t:Nat}{pre post:List Value}{d:Db}{H:Nat->Hd}(h:aE w b t pre post d H){k:Nat}(hk:cK H k):k<w.heap.size:=by
  obtain⟨i,hi⟩:=hk;exact(h.own i).lt hi
theorem aE.keptP{w w':World}{b t:Nat}{pre post:List Value}{d:Db}{H:Nat->Hd}{P:Nat->Prop}(h:aE w b t pre post d H)(hk:dw P w w')(hb:¬P b)(hs:∀k,cK H k->¬P k):aE w' b t pre post d H :=
  ⟨hk.get h.blk hb,fun i=>(h.own i).moved (fun k hk'=>hk.block k ((h.own i).lt hk') (hs k ⟨i,hk'⟩)),h.apart,h.off⟩
theorem aE.kept{w w':World}{b t:Nat}{pre post:List Value}{d:Db}{H:Nat->Hd}{S:List Nat}(h:aE w b t pre post d H)(hk:aa S w w')(hb:b∉S)(hs:∀k,cK H k->k∉S):aE w' b t pre post d H :=
  h.keptP (hk.toP (P:=(·∈S)) (fun _ hm _=>hm)) hb hs
theorem aE.still{w w':World}{b t:Nat}{pre post:List Value}{d:Db}{H:Nat->Hd}(h:aE w b t pre post d H)(hk:aa [] w w'):aE w' b t pre post d H:=h.kept hk (by simp) (by simp)
theorem sJ(pre l post:List Value)(o i:Nat)(ho:pre.length=o)(hi:i<l.length):(pre++(l++post)).toArray[o+i]?=l[i]?:=by
  subst ho;simp[List.getElem?_append_right,List.getElem?_append_left hi]
theorem yk(pre l post:List Value)(o i:Nat)(u:Value)(ho:pre.length=o)(hi:i<l.length):(pre++(l++post)).set (o+i) u=pre++(l.set i u++post):=by
  subst ho;rw[List.set_append_right _ _ (by omega),show pre.length+i-pre.length=i by omega,List.set_append_left _ _ hi]
theorem aE.cellAt{w:World}{b t:Nat}{pre post:List Value}{d:Db}{H:Nat->Hd}(h:aE w b t pre post d H)(o:Nat)(ho:pre.length=o)(i:Nat)(hi:i<13):w.cell? ⟨b,o+i,none⟩=(bu d H)[i]? :=
  (ab h.blk (o+i)).trans (sJ pre (bu d H) post o i ho hi)
theorem aE.cells{w:World}{b t:Nat}{pre post:List Value}{d:Db}{H:Nat->Hd}(h:aE w b t pre post d H)(o:Nat)(ho:pre.length=o) :
    w.cell? ⟨b,o,none⟩=some (.slice (H 0).ao d.labels.length (H 0).cap)/\w.cell? ⟨b,o+1,none⟩=some (.slice (H 1).ao d.constants.length (H 1).cap) /\
    w.cell? ⟨b,o+2,none⟩=some (.slice (H 2).ao d.variables.length (H 2).cap)/\w.cell? ⟨b,o+3,none⟩=some (.slice (H 3).ao d.active.length (H 3).cap) /\
    w.cell? ⟨b,o+4,none⟩=some (.slice (H 4).ao d.typed.length (H 4).cap)/\w.cell? ⟨b,o+5,none⟩=some (.slice (H 5).ao d.blocks.length (H 5).cap) /\
    w.cell? ⟨b,o+6,none⟩=some (.slice (H 6).ao d.sts.length (H 6).cap)/\w.cell? ⟨b,o+7,none⟩=some (.slice (H 7).ao d.rbl.length (H 7).cap) /\
    w.cell? ⟨b,o+8,none⟩=some (.int .i64 d.kind)/\w.cell? ⟨b,o+9,none⟩=some (.string d.label)/\w.cell? ⟨b,o+10,none⟩=some (.slice (H 8).ao d.symbols.length (H 8).cap) /\
    w.cell? ⟨b,o+11,none⟩=some (.bool d.inProof)/\w.cell? ⟨b,o+12,none⟩=some (.slice (H 9).ao d.proof.length (H 9).cap):=by
  have m:=h.cellAt o ho;exact⟨m 0 (by omega),m 1 (by omega),m 2 (by omega),m 3 (by omega),m 4 (by omega),m 5 (by omega),m 6 (by omega),m 7 (by omega),m 8 (by omega),m 9 (by omega),m 10 (by omega),m 11 (by omega),m 12 (by omega)⟩
def ag(b:Nat)(w:World)(H:Nat->Hd)(w':World)(H':Nat->Hd):Prop :=
  dw (fun k=>k=b∨cK H k) w w'/\∀k,cK H' k->cK H k∨w.heap.size<=k
theorem ag.refl(b:Nat)(w:World)(H:Nat->Hd):ag b w H w H:=⟨dw.refl _ _,fun _ hk=>Or.inl hk⟩
theorem ag.trans{b:Nat}{w0 w1 w2:World}{H0 H1 H2:Nat->Hd}(a:ag b w0 H0 w1 H1)(c:ag b w1 H1 w2 H2):ag b w0 H0 w2 H2:=by
  refine⟨⟨c.1.os.trans a.1.os,c.1.tape.trans a.1.tape,c.1.output.trans a.1.output,Nat.le_trans a.1.size c.1.size,?_⟩,?_⟩
  · intro k hk hn
    rw[<-a.1.block k hk hn];refine c.1.block k (Nat.lt_of_lt_of_le hk a.1.size) ?_;rintro (e | hm)
    · exact hn (Or.inl e)
    · rcases a.2 k hm with h | h
      · exact hn (Or.inr h)
      · omega
  · intro k hk
    rcases c.2 k hk with h | h
    · exact a.2 k h
    · exact Or.inr (Nat.le_trans a.1.size h)
theorem ag.still{b:Nat}{w0 w1 w2:World}{H0 H1:Nat->Hd}(a:ag b w0 H0 w1 H1)(c:aa [] w1 w2):ag b w0 H0 w2 H1 :=
  a.trans ⟨c.toP (by simp),fun _ hk=>Or.inl hk⟩
theorem ag.first{b:Nat}{w0 w1 w2:World}{H0 H1:Nat->Hd}(c:aa [] w0 w1)(a:ag b w1 H0 w2 H1):ag b w0 H0 w2 H1 :=
  ag.trans ⟨c.toP (by simp),fun _ hk=>Or.inl hk⟩ a
theorem aE.putG{w w1:World}{b t:Nat}{pre post:List Value}{d d':Db}{H:Nat->Hd}(h:aE w b t pre post d H)(o c:Nat)(ho:pre.length=o)(i:Nat)(hi:i<10)(h':Hd)
    (o1:au w1 h' (aF d' H i)) (hg:w.grownBy w1 (H i).blk)
    (hf:h'.blk=none∨h'.blk=(H i).blk∨∃g,h'.blk=some g/\w.heap.size<=g) (hrow:∀j,j≠i->au w (H j) (aF d' H j))
    (u:Value) (hc:c<13) (hl:(bu d H).set c u=bu d' (cG H i h')) :
    aE (w1.setCell ⟨b,o+c,none⟩ u) b t pre post d' (cG H i h')/\ag b w H (w1.setCell ⟨b,o+c,none⟩ u) (cG H i h'):=by
  have hb:=h.lt;have hb1:w1.heap[b]?=some (.cells (pre++(bu d H++post)).toArray t (0,0)):=(hg.block b hb (fun e=>h.off i e.symm)).trans h.blk
  have hoff:∀j,(cG H i h' j).blk≠some b:=by
    intro j
    by_cases e:j=i
    · subst e;rw[bN];intro hx
      rcases hf with hf | hf | ⟨g,hf,hg'⟩
      · rw[hf]at hx;cases hx
      · exact h.off j (hf ▸ hx)
      · rw[hf]at hx;cases hx;omega
    · rw[bd _ _ _ _ e];exact h.off j
  refine⟨⟨?_,?_,?_,hoff⟩,⟨hg.os,hg.tape,hg.output,by have:=hg.size;simp[World.setCell];omega,?_⟩,?_⟩
  · rw[ae hb1,List.setIfInBounds_toArray,yk pre (bu d H) post o c u ho hc,hl]
  · intro j
    have q:au w1 (cG H i h' j) (aF d' (cG H i h') j):=by
      rw[CQ d' H i h' hi j]
      by_cases e:j=i
      · subst e;rw[bN];exact o1
      · rw[bd _ _ _ _ e]
        refine(hrow j e).moved (fun k hk=>hg.block k ((h.own j).lt hk) ?_);intro ek
        rcases h.apart j i e with a | a
        · rw[a]at hk;cases hk
        · exact a (hk.trans ek)
    refine q.moved (fun k hk=>Below.heap_setCell _ _ _ _ ?_);rintro rfl;exact hoff j hk
  · intro j l hne
    by_cases e:j=i
    · subst e
      rw[bN,bd _ _ _ _ (fun e=>hne e.symm)]
      rcases hf with hf | hf | ⟨g,hf,hg'⟩
      · exact Or.inl hf
      · rw[hf];exact h.apart j l hne
      · right;rw[hf];intro ek;have:=(h.own l).lt ek.symm;omega
    · rw[bd _ _ _ _ e]
      by_cases e2:l=i
      · subst e2
        rw[bN]
        rcases hf with hf | hf | ⟨g,hf,hg'⟩
        · rw[hf];cases (H j).blk <;> simp
        · rw[hf];exact h.apart j l hne
        · cases hx:(H j).blk with
          | none=>exact Or.inl rfl
          | some k=>right;rw[hf];intro ek;cases ek;have:=(h.own j).lt hx;omega
      · rw[bd _ _ _ _ e2];exact h.apart j l hne
  · intro k hk hn
    rw[Below.heap_setCell _ _ _ _ (fun e=>hn (Or.inl e))];exact hg.block k hk (fun e=>hn (Or.inr ⟨i,e.symm⟩))
  · intro k hk
    obtain⟨j,e⟩:=hk
    by_cases ei:j=i
    · subst ei
      rw[bN]at e
      rcases hf with hf | hf | ⟨g,hf,hg'⟩
      · rw[hf]at e;cases e
      · exact Or.inl ⟨j,hf ▸ e⟩
      · rw[hf]at e;cases e;exact Or.inr hg'
    · rw[bd _ _ _ _ ei]at e
      exact Or.inl ⟨j,e⟩
theorem aE.put{w w1:World}{b t:Nat}{pre post:List Value}{d d':Db}{H:Nat->Hd}(h:aE w b t pre post d H)(o c:Nat)(ho:pre.length=o)(i:Nat)(hi:i<10)(h':Hd)
    (o1:au w1 h' (aF d' H i)) (hg:w.grownBy w1 (H i).blk)
    (hf:h'.blk=none∨h'.blk=(H i).blk∨∃g,h'.blk=some g/\w.heap.size<=g) (hrow:∀j,j≠i->aF d' H j=aF d H j)
    (u:Value) (hc:c<13) (hl:(bu d H).set c u=bu d' (cG H i h')) :
    aE (w1.setCell ⟨b,o+c,none⟩ u) b t pre post d' (cG H i h')/\ag b w H (w1.setCell ⟨b,o+c,none⟩ u) (cG H i h') :=
  h.putG o c ho i hi h' o1 hg hf (fun j hj=>by rw[hrow j hj];exact h.own j) u hc hl
theorem aE.set{w:World}{b t:Nat}{pre post:List Value}{d d':Db}{H:Nat->Hd}(h:aE w b t pre post d H)(o c:Nat)(ho:pre.length=o)
    (hrow:∀j,aF d' H j=aF d H j) (u:Value) (hc:c<13) (hl:(bu d H).set c u=bu d' H) :
    aE (w.setCell ⟨b,o+c,none⟩ u) b t pre post d' H/\ag b w H (w.setCell ⟨b,o+c,none⟩ u) H:=by
  refine⟨⟨?_,?_,h.apart,h.off⟩,(dw.refl _ _).setCell (Or.inl (Or.inl rfl)) _,fun _ hk=>Or.inl hk⟩
  · rw[ae h.blk,List.setIfInBounds_toArray,yk pre (bu d H) post o c u ho hc,hl]
  · intro j
    rw[hrow j];refine(h.own j).moved (fun k hk=>Below.heap_setCell _ _ _ _ ?_);rintro rfl;exact h.off j hk
theorem aE.app{w w1:World}{b t:Nat}{pre post:List Value}{d d':Db}{H:Nat->Hd}(h:aE w b t pre post d H)(o c:Nat)(ho:pre.length=o)(i:Nat)(hi:i<10)(g cap' m:Nat)(r:eI)
    (hw1:au w1 ⟨some ⟨g,0,none⟩,cap'⟩ r) (hr:r=aF d' H i) (hgr:w.grownBy w1 (H i).blk) (hfresh:(H i).blk=some g∨w.heap.size<=g)
    (hrow:∀j,j≠i->aF d' H j=aF d H j) (hc:c<13) (v0:Value) (hv:(bu d H)[c]?=some v0)
    (hl:(bu d H).set c (.slice (some ⟨g,0,none⟩) m cap')=bu d' (cG H i ⟨some ⟨g,0,none⟩,cap'⟩)) :
    w1.cell? ⟨b,o+c,none⟩=some v0/\w1.frozen? ⟨b,o+c,none⟩=false /\
    Hid (aE (w1.setCell ⟨b,o+c,none⟩ (.slice (some ⟨g,0,none⟩) m cap')) b t pre post d' (cG H i ⟨some ⟨g,0,none⟩,cap'⟩) /\
      ag b w H (w1.setCell ⟨b,o+c,none⟩ (.slice (some ⟨g,0,none⟩) m cap')) (cG H i ⟨some ⟨g,0,none⟩,cap'⟩)):=by
  have hk:=(hgr.block b h.lt (fun e=>h.off i e.symm)).trans h.blk;subst hr;refine⟨((ab hk (o+c)).trans (sJ pre (bu d H) post o c ho hc)).trans hv,an hk _,?_⟩
  exact h.put (d':=d') o c ho i hi ⟨some ⟨g,0,none⟩,cap'⟩ hw1 hgr
    (by rcases hfresh with e | e
        · exact Or.inr (Or.inl e.symm)
        · exact Or.inr (Or.inr ⟨g,rfl,by simpa using e⟩)) hrow _ hc hl
theorem uR(d:Db)(H:Nat->Hd)(l:List ByteArray):∀j,j≠0->aF { d with labels:=l } H j=aF d H j:=by
  intro j hne
  match j with
  | 0=>exact absurd rfl hne
  | 1=>rfl
  | 2=>rfl
  | 3=>rfl
  | 4=>rfl
  | 5=>rfl
  | 6=>rfl
  | 7=>rfl
  | 8=>rfl
  | 9=>rfl
  | n+10=>rfl
theorem pZ(d:Db)(H:Nat->Hd)(l:List ByteArray):∀j,j≠1->aF { d with constants:=l } H j=aF d H j:=by
  intro j hne
  match j with
  | 0=>rfl
  | 1=>exact absurd rfl hne
  | 2=>rfl
  | 3=>rfl
  | 4=>rfl
  | 5=>rfl
  | 6=>rfl
  | 7=>rfl
  | 8=>rfl
  | 9=>rfl
  | n+10=>rfl
theorem p8(d:Db)(H:Nat->Hd)(l:List ByteArray):∀j,j≠2->aF { d with variables:=l } H j=aF d H j:=by
  intro j hne
  match j with
  | 0=>rfl
  | 1=>rfl
  | 2=>exact absurd rfl hne
  | 3=>rfl
  | 4=>rfl
  | 5=>rfl
  | 6=>rfl
  | 7=>rfl
  | 8=>rfl
  | 9=>rfl
  | n+10=>rfl
theorem nT(d:Db)(H:Nat->Hd)(l:List ByteArray):∀j,j≠3->aF { d with active:=l } H j=aF d H j:=by
  intro j hne
  match j with
  | 0=>rfl
  | 1=>rfl
  | 2=>rfl
  | 3=>exact absurd rfl hne
  | 4=>rfl
  | 5=>rfl
  | 6=>rfl
  | 7=>rfl
  | 8=>rfl
  | 9=>rfl
  | n+10=>rfl
theorem p7(d:Db)(H:Nat->Hd)(l:List ByteArray):∀j,j≠4->aF { d with typed:=l } H j=aF d H j:=by
  intro j hne
  match j with
  | 0=>rfl
  | 1=>rfl
  | 2=>rfl
  | 3=>rfl
  | 4=>exact absurd rfl hne
  | 5=>rfl
  | 6=>rfl
  | 7=>rfl
  | 8=>rfl
  | 9=>rfl
  | n+10=>rfl
theorem nU(d:Db)(H:Nat->Hd)(l:List (Nat×Nat)):∀j,j≠5->aF { d with blocks:=l } H j=aF d H j:=by
  intro j hne
  match j with
  | 0=>rfl
  | 1=>rfl
  | 2=>rfl
  | 3=>rfl
  | 4=>rfl
  | 5=>exact absurd rfl hne
  | 6=>rfl
  | 7=>rfl
  | 8=>rfl
  | 9=>rfl
  | n+10=>rfl
theorem uT(d:Db)(H:Nat->Hd)(l:List Nat):∀j,j≠7->aF { d with rbl:=l } H j=aF d H j:=by
  intro j hne
  match j with
  | 0=>rfl
  | 1=>rfl
  | 2=>rfl
  | 3=>rfl
  | 4=>rfl
  | 5=>rfl
  | 6=>rfl
  | 7=>exact absurd rfl hne
  | 8=>rfl
  | 9=>rfl
  | n+10=>rfl
theorem mO(d:Db)(H:Nat->Hd)(l:List ByteArray):∀j,j≠8->aF { d with symbols:=l } H j=aF d H j:=by
  intro j hne
  match j with
  | 0=>rfl
  | 1=>rfl
  | 2=>rfl
  | 3=>rfl
  | 4=>rfl
  | 5=>rfl
  | 6=>rfl
  | 7=>rfl
  | 8=>exact absurd rfl hne
  | 9=>rfl
  | n+10=>rfl
theorem p6(d:Db)(H:Nat->Hd)(l:List (ByteArray×Pl)):∀j,j≠9->aF { d with proof:=l } H j=aF d H j:=by
  intro j hne
  match j with
  | 0=>rfl
  | 1=>rfl
  | 2=>rfl
  | 3=>rfl
  | 4=>rfl
  | 5=>rfl
  | 6=>rfl
  | 7=>rfl
  | 8=>rfl
  | 9=>exact absurd rfl hne
  | n+10=>rfl
theorem Ab(d:Db)(H:Nat->Hd)(l:Int):∀j,aF { d with kind:=l } H j=aF d H j:=by
  intro j
  match j with
  | 0=>rfl
  | 1=>rfl
  | 2=>rfl
  | 3=>rfl
  | 4=>rfl
  | 5=>rfl
  | 6=>rfl
  | 7=>rfl
  | 8=>rfl
  | 9=>rfl
  | n+10=>rfl
theorem wY(d:Db)(H:Nat->Hd)(l:ByteArray):∀j,aF { d with label:=l } H j=aF d H j:=by
  intro j
  match j with
  | 0=>rfl
  | 1=>rfl
  | 2=>rfl
  | 3=>rfl
  | 4=>rfl
  | 5=>rfl
  | 6=>rfl
  | 7=>rfl
  | 8=>rfl
  | 9=>rfl
  | n+10=>rfl
theorem sY(d:Db)(H:Nat->Hd)(l:Bool):∀j,aF { d with inProof:=l } H j=aF d H j:=by
  intro j
  match j with
  | 0=>rfl
  | 1=>rfl
  | 2=>rfl
  | 3=>rfl
  | 4=>rfl
  | 5=>rfl
  | 6=>rfl
  | 7=>rfl
  | 8=>rfl
  | 9=>rfl
  | n+10=>rfl
def aZ(l:List ByteArray)(x:ByteArray):Bool:=l.any (fun y=>y.toList==x.toList)
theorem x9(l:List ByteArray)(x:ByteArray)(k:Nat)(h:k<l.length)(he:aZ l x=aZ (l.drop k) x)(hb:((l[k]).toList==x.toList)=true):aZ l x=true:=by
 rw[he,List.drop_eq_getElem_cons h];simp only[aZ,List.any_cons,hb,Bool.true_or]
theorem ud(l:List ByteArray)(x:ByteArray)(k:Nat)(h:k<l.length)(he:aZ l x=aZ (l.drop k) x)(hb:((l[k]).toList==x.toList)=false):aZ l x=aZ (l.drop (k+1)) x:=by
 rw[he,List.drop_eq_getElem_cons h];simp only[aZ,List.any_cons,hb,Bool.false_or]
theorem uf(l:List ByteArray)(x:ByteArray)(k:Nat)(h:¬k<l.length)(he:aZ l x=aZ (l.drop k) x):aZ l x=false:=by
 rw[he,List.drop_of_length_le (by omega)];rfl
theorem mP(l:List ByteArray)(k:Nat)(h:k<l.length):(strs l)[k]?=some (.string l[k]):=by simp[strs,h]
theorem cV(hd:Hd)(l:List ByteArray)(x:ByteArray)(w:World)(ho:au w hd (am l))(hl:l.length<=1073741824) :
  Calls Tryz.prog 163 #[.slice hd.ao l.length hd.cap,.string x] w fun e w'=>e=.returned (.bool (aZ l x))/\w'=w:=by
 obtain⟨ao,cap⟩:=hd
 rcases ho.ways with ⟨e0,h0,_⟩ | ⟨g,cur,e1,_⟩
 ·have h0':l.length=0:=h0
  have hl0:l=[]:=List.eq_nil_of_length_eq_zero h0';subst hl0
  injection e0 with e0 e2
  subst e0;clear ho h0 h0' hl e2;go_enter Tryz.func163,Tryz.ntmps163;go_wp2;refine wp_loop_rounds 1 ?_;rw[rounds_succ];go_wp2;go_ret;exact⟨rfl,rfl⟩
 ·simp only at e1
  subst e1;go_enter Tryz.func163,Tryz.ntmps163;go_wp2
  go_loopg [5] l.length (fun g i wr=>∃k:Nat,k<=l.length/\g=l.length-k/\i=.int .i64 k/\Hid (aZ l x=aZ (l.drop k) x)/\wr=w)
  case atStart=>exact⟨0,by omega,by omega,rfl,rfl,rfl⟩
  case round =>
   obtain⟨k,hk,hg,rfl,hs,rfl⟩:=hrel
   by_cases hlt:k<l.length
   ·have c1:=ho.cell rfl k (.string l[k]) (mP l k hlt)
    cases hb:((l[k]).toList==x.toList)
    ·have HM:Hid (aZ l x=aZ (l.drop (k+1)) x):=ud l x k hlt hs.out hb
     clear hs ho;go_wp2
     go_roundg (l.length-(k+1))
     case measure=>omega
     case rel=>exact⟨k+1,by omega,rfl,by go_num,HM,rfl⟩
    ·have HM:Hid (aZ l x=true):=x9 l x k hlt hs.out hb
     clear hs ho;go_wp2;go_ret;exact⟨GQ HM.out.symm,rfl⟩
   ·have HM:Hid (aZ l x=false):=uf l x k hlt hs.out
    clear hs ho;go_wp2;go_ret;exact⟨GQ HM.out.symm,rfl⟩
theorem dp:(Tryz.prog.info? 9).map (fun i=>(i.zero,i.size,i.bytes))=some (some (.string ⟨#[]⟩),1,16):=by kernel_rfl
theorem Av(l:List ByteArray)(x:ByteArray):strs (l++[x])=strs l++[.string x]:=by simp[strs]
theorem bE(l:List ByteArray)(x:ByteArray):(⟨(am l).e,(am l).size,(am l).n+1,(am l).xs++[.string x]⟩:eI)=am (l++[x]):=by
 simp[am,Av]
set_option maxRecDepth 100000 in
theorem rY(b t o:Nat)(pre post:List Value)(d:Db)(H:Nat->Hd)(x:ByteArray)(w:World)(h:aE w b t pre post d H)(ho:pre.length=o)(hl:d.labels.length<=1073741824) :
  Calls Tryz.prog 177 #[.pointer (some ⟨b,o,none⟩),.string x] w fun e w'=>e=.returned (.tuple #[])/\∃H',aE w' b t pre post { d with labels:=d.labels++[x] } H'/\ag b w H w' H':=by
 obtain⟨i0,hi,hz0,hz1,hz2⟩:=info_parts dp;obtain⟨q0,q1,q2,q3,q4,q5,q6,q7,q8,q9,q10,q11,q12⟩:=h.cells o ho;have hfr:=h.free;have hbw:=h.lt;have hA:=h.still ((aa.refl [] w).alloc (.cells #[.string x] 9));have hownA:=hA.own 0;go_enter Tryz.func177,Tryz.ntmps177;go_wp2_with (at_builtin;refine ay _ rfl (.tmp 8) (.tmp 10) 22 rfl i0 (.string ⟨#[]⟩) 16 (H 0) (am d.labels) Tryz.underlying22 hi hz0 hz1 hz2 rfl Nat.one_pos rfl hownA ⟨w.heap.size,0,none⟩ 1 1 [.string x] rfl rfl ?c1 ?c2 Nat.one_pos ?c3 ?c4 ?_)
 case c1=>intro j u hj;match j,hj with | 0,hj=>simp at hj;subst hj;simp[Addr.add]
 case c2=>intro u hu;simp at hu;subst hu;rfl
 case c3=>simp only[am];unfold maxLen;omega
 case c4=>simp only[am];omega
 ·intro g cap' w1 hw1 hgr hfresh
  obtain⟨k0,f0,HP⟩:=hA.app (d':={ d with labels:=d.labels++[x] }) o 0 ho 0 (by omega) g cap' ((am d.labels).n+1) _ hw1 (bE d.labels x) hgr (by simpa using hfresh) (uR d H _) (by omega) _ rfl (by simp[bu,cG,am]);simp only[Nat.add_zero]at k0 f0 HP;clear hA hownA q0 q1 q2 q3 q4 q5 q6 q7 q8 q9 q10 q11 q12 hw1 hgr hfresh hfr;go_wp2;go_end0;exact⟨rfl,_,HP.out.1,HP.out.2.first ((aa.refl [] w).alloc _)⟩
set_option maxRecDepth 100000 in
theorem rZ(b t o:Nat)(pre post:List Value)(d:Db)(H:Nat->Hd)(x:ByteArray)(w:World)(h:aE w b t pre post d H)(ho:pre.length=o)(hl:d.typed.length<=1073741824) :
  Calls Tryz.prog 180 #[.pointer (some ⟨b,o,none⟩),.string x] w fun e w'=>e=.returned (.tuple #[])/\∃H',aE w' b t pre post { d with typed:=d.typed++[x] } H'/\ag b w H w' H':=by
 obtain⟨i0,hi,hz0,hz1,hz2⟩:=info_parts dp;obtain⟨q0,q1,q2,q3,q4,q5,q6,q7,q8,q9,q10,q11,q12⟩:=h.cells o ho;have hfr:=h.free;have hbw:=h.lt;have hA:=h.still ((aa.refl [] w).alloc (.cells #[.string x] 9));have hownA:=hA.own 4;go_enter Tryz.func180,Tryz.ntmps180;go_wp2_with (at_builtin;refine ay _ rfl (.tmp 8) (.tmp 10) 22 rfl i0 (.string ⟨#[]⟩) 16 (H 4) (am d.typed) Tryz.underlying22 hi hz0 hz1 hz2 rfl Nat.one_pos rfl hownA ⟨w.heap.size,0,none⟩ 1 1 [.string x] rfl rfl ?c1 ?c2 Nat.one_pos ?c3 ?c4 ?_)
 case c1=>intro j u hj;match j,hj with | 0,hj=>simp at hj;subst hj;simp[Addr.add]
 case c2=>intro u hu;simp at hu;subst hu;rfl
 case c3=>simp only[am];unfold maxLen;omega
 case c4=>simp only[am];omega
 ·intro g cap' w1 hw1 hgr hfresh
  obtain⟨k0,f0,HP⟩:=hA.app (d':={ d with typed:=d.typed++[x] }) o 4 ho 4 (by omega) g cap' ((am d.typed).n+1) _ hw1 (bE d.typed x) hgr (by simpa using hfresh) (p7 d H _) (by omega) _ rfl (by simp[bu,cG,am])
  skip
  clear hA hownA q0 q1 q2 q3 q4 q5 q6 q7 q8 q9 q10 q11 q12 hw1 hgr hfresh hfr;go_wp2;go_end0;exact⟨rfl,_,HP.out.1,HP.out.2.first ((aa.refl [] w).alloc _)⟩
structure dF(d:Db)(N:Nat):Prop where
 labels:d.labels.length<=N
 constants:d.constants.length<=N
 variables:d.variables.length<=N
 active:d.active.length<=N
 typed:d.typed.length<=N
 blocks:d.blocks.length<=N
 sts:d.sts.length<=N
 rbl:d.rbl.length<=N
 symbols:d.symbols.length<=N
 proof:d.proof.length<=N
theorem lg(l m:List ByteArray):(⟨(am l).e,(am l).size,(am l).n+m.length,(am l).xs++strs m⟩:eI)=am (l++m):=by
 simp[am,strs]
theorem jq(l:List ByteArray):∀u∈strs l,u.oneCell'=true:=by
 intro u hu;simp only[strs,List.mem_map]at hu;obtain⟨x,_,rfl⟩:=hu;rfl
set_option maxRecDepth 100000 in
theorem mU(b t o:Nat)(pre post:List Value)(d:Db)(H:Nat->Hd)(w:World)(h:aE w b t pre post d H)(ho:pre.length=o)(hm:0<d.symbols.length)(hs:dF d 100000000) :
  Calls Tryz.prog 178 #[.pointer (some ⟨b,o,none⟩),.slice (H 8).ao d.symbols.length (H 8).cap] w fun e w'=>e=.returned (.tuple #[])/\∃H',aE w' b t pre post { d with constants:=d.constants++d.symbols } H'/\ag b w H w' H':=by
 obtain⟨i0,hi,hz0,hz1,hz2⟩:=info_parts dp;obtain⟨q0,q1,q2,q3,q4,q5,q6,q7,q8,q9,q10,q11,q12⟩:=h.cells o ho;have hfr:=h.free;have hbw:=h.lt;have hown:=h.own 1;have hw8:au w (H 8) (am d.symbols):=h.own 8;have hl1:=hs.constants;have hl2:=hs.symbols
 rcases hw8.ways with ⟨_,h0,_⟩ | ⟨g8,cur8,e8,_⟩
 ·have:d.symbols.length=0:=h0
  omega
 ·rw[e8]
  have hsrc:Hid (∀j u,(strs d.symbols)[j]?=some u->w.cell? ((⟨g8,0,none⟩:Addr).add j)=some u):=fun j u hj=>by rw[aV];exact hw8.cell e8 j u hj
  clear hw8;go_enter Tryz.func178,Tryz.ntmps178;go_wp2_with (at_builtin;refine ay _ rfl (.tmp 8) (.tmp 9) 22 rfl i0 (.string ⟨#[]⟩) 16 (H 1) (am d.constants) Tryz.underlying22 hi hz0 hz1 hz2 rfl Nat.one_pos rfl hown ⟨g8,0,none⟩ d.symbols.length (H 8).cap (strs d.symbols) rfl ?c0 hsrc.out (jq _) hm ?c3 ?c4 ?_)
  case c0=>simp[strs,am]
  case c3=>simp only[am];unfold maxLen;omega
  case c4=>simp only[am];omega
  ·intro g cap' w1 hw1 hgr hfresh
   obtain⟨k0,f0,HP⟩:=h.app (d':={ d with constants:=d.constants++d.symbols }) o 1 ho 1 (by omega) g cap' ((am d.constants).n+d.symbols.length) _ hw1 (lg d.constants d.symbols) hgr hfresh (pZ d H _) (by omega) _ rfl (by simp[bu,cG,am]);clear hown q0 q1 q2 q3 q4 q5 q6 q7 q8 q9 q10 q11 q12 hw1 hgr hfresh hfr hsrc;go_wp2;go_end0;exact⟨rfl,_,HP.out.1,HP.out.2⟩
def bK(v l:List ByteArray):List ByteArray:=l.foldl (fun v x=>if aZ v x=true then v else v++[x]) v
def da(d:Db)(k:Nat):Db:={ d with active:=d.active++d.symbols,variables:=bK d.variables (d.symbols.take k) }
theorem AL(v l:List ByteArray)(x:ByteArray):bK v (l++[x])=if aZ (bK v l) x=true then bK v l else bK v l++[x]:=by
 unfold bK;rw[List.foldl_append];rfl
theorem vn(v l:List ByteArray):(bK v l).length<=v.length+l.length:=by
 induction l generalizing v with
 | nil=>simp[bK]
 | cons x l ih =>
  have:=ih (if aZ v x=true then v else v++[x]);have e:bK v (x :: l)=bK (if aZ v x=true then v else v++[x]) l:=rfl;rw[e];have h2:(if aZ v x=true then v else v++[x]).length<=v.length+1:=by split <;> simp
  simp only[List.length_cons];omega
theorem dv{α:Type}(l:List α)(k:Nat)(h:k<l.length):l.take (k+1)=l.take k++[l[k]]:=by simp
set_option maxRecDepth 100000 in
theorem mV(b t o:Nat)(pre post:List Value)(d:Db)(H:Nat->Hd)(w:World)(h:aE w b t pre post d H)(ho:pre.length=o)(hm:0<d.symbols.length)(hs:dF d 100000000) :
  Calls Tryz.prog 179 #[.pointer (some ⟨b,o,none⟩),.slice (H 8).ao d.symbols.length (H 8).cap] w fun e w'=>e=.returned (.tuple #[])/\∃H',aE w' b t pre post (da d d.symbols.length) H'/\ag b w H w' H':=by
 obtain⟨i0,hi,hz0,hz1,hz2⟩:=info_parts dp;obtain⟨q0,q1,q2,q3,q4,q5,q6,q7,q8,q9,q10,q11,q12⟩:=h.cells o ho;have hfr:=h.free;have hbw:=h.lt;have hown:=h.own 3;have hw8:au w (H 8) (am d.symbols):=h.own 8;have hl1:=hs.active;have hl2:=hs.symbols;have hl3:=hs.variables
 rcases hw8.ways with ⟨_,h0,_⟩ | ⟨g8,cur8,e8,_⟩
 ·have:d.symbols.length=0:=h0
  omega
 ·rw[e8]
  have hsrc:Hid (∀j u,(strs d.symbols)[j]?=some u->w.cell? ((⟨g8,0,none⟩:Addr).add j)=some u):=fun j u hj=>by rw[aV];exact hw8.cell e8 j u hj
  clear hw8;go_enter Tryz.func179,Tryz.ntmps179;go_wp2_with (at_builtin;refine ay _ rfl (.tmp 9) (.tmp 10) 22 rfl i0 (.string ⟨#[]⟩) 16 (H 3) (am d.active) Tryz.underlying22 hi hz0 hz1 hz2 rfl Nat.one_pos rfl hown ⟨g8,0,none⟩ d.symbols.length (H 8).cap (strs d.symbols) rfl ?c0 hsrc.out (jq _) hm ?c3 ?c4 ?_)
  case c0=>simp[strs,am]
  case c3=>simp only[am];unfold maxLen;omega
  case c4=>simp only[am];omega
  ·intro g cap' w1 hw1 hgr hfresh
   obtain⟨k0,f0,HP⟩:=h.app (d':=da d 0) o 3 ho 3 (by omega) g cap' ((am d.active).n+d.symbols.length) _ hw1 (lg d.active d.symbols) hgr hfresh (nT d H _) (by omega) _ rfl (by simp[bu,cG,am,da,bK]);clear hown q0 q1 q2 q3 q4 q5 q6 q7 q8 q9 q10 q11 q12 hw1 hgr hfresh hfr hsrc;go_wp2
   go_loopg [4] d.symbols.length (fun g i wr=>∃(k:Nat) (H1:Nat->Hd),k<=d.symbols.length/\g=d.symbols.length-k/\i=.int .i64 k/\H1 8=H 8/\aE wr b t pre post (da d k) H1/\ag b w H wr H1)
   case atStart=>exact⟨0,_,by omega,by omega,rfl,by simp[cG],HP.out.1,HP.out.2⟩
   case round =>
    obtain⟨k,H1,hk,hg,rfl,h8,D,T⟩:=hrel;clear HP k0 f0
    by_cases hlt:k<d.symbols.length
    ·obtain⟨q0,q1,q2,q3,q4,q5,q6,q7,q8,q9,q10,q11,q12⟩:=D.cells o ho
     have hw8:au wr (H 8) (am d.symbols):=by have:=D.own 8;rw[h8]at this;exact this
     have c1:=hw8.cell e8 k (.string d.symbols[k]) (mP d.symbols k hlt)
     have hvl:(da d k).variables.length<=1073741824:=by
      have:=vn d.variables (d.symbols.take k);simp only[List.length_take]at this
      show(bK d.variables (d.symbols.take k)).length<=_
      omega
     have hfr:=D.free
     have HS:Hid (da d (k+1)=if aZ (da d k).variables d.symbols[k]=true then da d k else { da d k with variables:=(da d k).variables++[d.symbols[k]] }):=by
      show da d (k+1)=_
      unfold da;rw[dv d.symbols k hlt,AL];simp only
      split <;> rfl
     generalize da d k=dk at *;generalize d.symbols[k]=x at *;clear q0 q1 q3 q4 q5 q6 q7 q8 q9 q10 q11 q12 hw8
     cases hb:aZ dk.variables x
     ·have HT:Hid (da d (k+1)={ dk with variables:=dk.variables++[x] }):=by show da d (k+1)=_;rw[HS.out];simp[hb]
      clear HS;go_wp2_with fail
      go_quiet ((go_at_call 163;exact Calls.quiet_of_same (cV (H1 2) dk.variables x _ (D.still ((aa.refl [] _).drewN _) |>.own 2) hvl)))
      obtain⟨wq,hwq⟩:∃wq,wq=wr.drewN nq:=⟨_,rfl⟩
      rw[<-hwq];have D2:aE wq b t pre post dk H1:=by rw[hwq];exact D.still ((aa.refl [] _).drewN _)
      have T2:ag b w H wq H1:=by rw[hwq];exact T.still ((aa.refl [] _).drewN _)
      have c1q:wq.cell? ⟨g8,k,none⟩=some (.string x):=by rw[hwq];exact c1
      clear hwq c1 D T hfr q2;obtain⟨q0,q1,q2,q3,q4,q5,q6,q7,q8,q9,q10,q11,q12⟩:=D2.cells o ho;have hfr:=D2.free;have hbq:=D2.lt;clear q0 q1 q3 q4 q5 q6 q7 q8 q9 q10 q11 q12;have hD:Hid (aE (wq.alloc (.cells #[.string x] 9)).drew b t pre post dk H1):=D2.still ((aa.refl [] wq).alloc _).drew
      have s2:Hid (∀j u,([.string x]:List Value)[j]?=some u->(wq.alloc (.cells #[.string x] 9)).drew.cell? ((⟨wq.heap.size,0,none⟩:Addr).add j)=some u):=by
       intro j u hj;have hk:(wq.alloc (.cells #[.string x] 9)).drew.heap[wq.heap.size]?=some (.cells #[.string x] 9 (0,0)):=heap_alloc_new wq _;rw[aV,ab hk];simpa using hj
      have s3:Hid (∀u∈([.string x]:List Value),u.oneCell'=true):=by intro u hu;simp at hu;subst hu;rfl
      have s4:Hid ((am dk.variables).n+1<=maxLen):=by show _<=_;simp only[am];unfold maxLen;omega
      have s5:Hid (((am dk.variables).n+1)*16<=140737488355328):=by show _<=_;simp only[am];omega
      go_wp2_with fail
      go_region_law (refine aC rfl (.tmp 34) (.tmp 39) 22 rfl i0 (.string ⟨#[]⟩) 16 (H1 2) (am dk.variables) Tryz.underlying22 hi hz0 hz1 hz2 rfl Nat.one_pos (by simp[Act.eval] <;> rfl) (hD.out.own 2) ⟨wq.heap.size,0,none⟩ 1 1 [.string x] (by simp[Act.eval]) rfl s2.out s3.out Nat.one_pos s4.out s5.out ?_;intro g cap' w1 hw1 hgr hfresh;obtain⟨k5,f5,HP⟩:=hD.out.app (d':={ dk with variables:=dk.variables++[x] }) o 2 ho 2 (by omega) g cap' ((am dk.variables).n+1) _ hw1 (bE dk.variables x) hgr (by simpa using hfresh) (p8 dk H1 _) (by omega) _ rfl (by simp[bu,cG,am]);clear hw1 hgr hfresh)
      all_goals go_wp2
      all_goals
       go_roundg (d.symbols.length-(k+1))
       case measure=>omega
       case rel=>exact⟨k+1,_,by omega,rfl,by go_num,by simp[cG,h8],by rw[HT.out];exact HP.out.1,T2.trans (HP.out.2.first ((aa.refl [] _).alloc _).drew)⟩
     ·have HT:Hid (da d (k+1)=dk):=by show da d (k+1)=_;rw[HS.out];simp[hb]
      clear HS;go_wp2_with fail
      go_quiet ((go_at_call 163;exact Calls.quiet_of_same (cV (H1 2) dk.variables x _ (D.still ((aa.refl [] _).drewN _) |>.own 2) hvl)))
      go_wp2
      go_roundg (d.symbols.length-(k+1))
      case measure=>omega
      case rel=>exact⟨k+1,H1,by omega,rfl,by go_num,h8,by rw[HT.out];exact D.still ((aa.refl [] _).drewN _),T.still ((aa.refl [] _).drewN _)⟩
    ·have e:k=d.symbols.length:=by omega
     subst e;go_wp2;go_end0;exact⟨rfl,H1,D,T⟩
end Go.Proofs.YtlbhbocbakijbaaGreat
