import Derived.Deep.LoopGhost
import Derived.Test.YtpddjjabfbfifaaGreatG02
namespace Go.Proofs.YtpddjjabfbfifaaGreat
open Go.RowKit
set_option maxHeartbeats 40000000
def aG(i:pF):Bool:=i.rule==0 && !i.fin
theorem cr(t n:ByteArray)(r l c:Int)(f:Bool)(w:World) :
    Calls Tryz.prog 156 #[.agg #[.string t,.int .i64 r,.bool f,.string n,.int .i64 l,.int .i64 c]] w fun e w'=>e=.returned (.bool (r==0 && !f))/\ab [] w w':=by
  cases hr:(r==0)
  · go_enter Tryz.func156,Tryz.ntmps156
    go_wp2;go_ret;exact⟨aB (by simp),(ab.refl _ _).alloc _⟩
  · go_enter Tryz.func156,Tryz.ntmps156
    go_wp2;go_ret;exact⟨aB (by simp),(ab.refl _ _).alloc _⟩
def dw(s:ByteArray):Bool:=(List.range s.size).any (fun i=>aF s i==36)
def jA(s:ByteArray):Bool:=(List.range s.size).any (fun i=>decide (1<=i)&&(aF s (i-1)==36)&&((aF s i==40)||(aF s i==41)))
theorem lI{n:Nat}{p:Nat->Bool}(i:Nat)(h:i<n)(hp:p i=true):(List.range n).any p=true:=by
  rw[List.any_eq_true];exact⟨i,by simpa using h,hp⟩
theorem tT{n:Nat}{p:Nat->Bool}(h:∀i,i<n->p i=false):(List.range n).any p=false:=by
  rw[List.any_eq_false];intro i hi;simp[h i (by simpa using hi)]
theorem dH(s:ByteArray)(w:World)(hs:s.size<=1073741824) :
    Calls Tryz.prog 231 #[.string s] w fun e w'=>e=.returned (.bool (dw s))/\w'=w:=by
  go_enter Tryz.func231,Tryz.ntmps231;go_wp2
  go_loopg [3] s.size (fun g i wr=>∃k:Nat,k<=s.size/\g=s.size-k/\i=.int .i64 k/\Hid (∀i,i<k->(aF s i==36)=false)/\wr=w)
  case atStart=>exact⟨0,by omega,by omega,rfl,fun i h=>by omega,rfl⟩
  case round =>
    obtain⟨k,hk,hg,rfl,hall,rfl⟩:=hrel
    by_cases hlt:k<s.size
    · cases hb:((s[k].toNat:Int)==36)
      · go_wp2
        go_roundg (s.size-(k+1))
        case measure=>omega
        case rel =>
          refine⟨k+1,by omega,rfl,by go_num,?_,rfl⟩;intro i hi
          by_cases e:i=k
          · subst e;rw[bI s i hlt];exact hb
          · exact hall.out i (by omega)
      · have HY:Hid (dw s=true):=lI k hlt (by rw[bI s k hlt];exact hb)
        go_wp2;go_ret;exact⟨aB HY.out.symm,rfl⟩
    · have HY:Hid (dw s=false):=tT (fun i hi=>hall.out i (by omega))
      go_wp2;go_ret;exact⟨aB HY.out.symm,rfl⟩
theorem rW(s:ByteArray)(w:World)(hs:s.size<=1073741824) :
    Calls Tryz.prog 230 #[.string s] w fun e w'=>e=.returned (.bool (jA s))/\w'=w:=by
  go_enter Tryz.func230,Tryz.ntmps230;go_wp2
  go_loopg [3] (s.size-1) (fun g i wr=>∃k:Nat,1<=k/\(k<=s.size∨k=1)/\g=s.size-k/\i=.int .i64 k/\Hid (∀i,i<k->1<=i->((aF s (i-1)==36)&&((aF s i==40)||(aF s i==41)))=false)/\wr=w)
  case atStart=>exact⟨1,by omega,by omega,rfl,rfl,fun i h h'=>by omega,rfl⟩
  case round =>
    obtain⟨k,hk1,hk,hg,rfl,hall,rfl⟩:=hrel
    by_cases hlt:k<s.size
    · have hlt1:k-1<s.size:=by omega
      have hq:∀b:Bool,(((s[k-1].toNat:Int)==36)&&(((s[k].toNat:Int)==40)||((s[k].toNat:Int)==41)))=b->((aF s (k-1)==36)&&((aF s k==40)||(aF s k==41)))=b :=
        fun b h=>by rw[bI s k hlt,bI s (k-1) hlt1];exact h
      have HQ:Hid (∀b:Bool,(((s[k-1].toNat:Int)==36)&&(((s[k].toNat:Int)==40)||((s[k].toNat:Int)==41)))=b->((aF s (k-1)==36)&&((aF s k==40)||(aF s k==41)))=b):=hq;clear hq;go_wp2
      all_goals first
        | (go_ret
           refine⟨aB ?_,rfl⟩;refine(lI (p:=fun i=>decide (1<=i)&&(aF s (i-1)==36)&&((aF s i==40)||(aF s i==41))) k hlt ?_).symm;have:=HQ.out true (by simp_all);simp only[Bool.and_assoc,this];simp[hk1])
        | (go_roundg (s.size-(k+1))
           case measure=>omega
           case rel =>
             refine⟨k+1,by omega,by omega,rfl,by go_num,?_,rfl⟩;intro i hi h1
             by_cases e:i=k
             · subst e;exact HQ.out false (by simp_all)
             · exact hall.out i (by omega) h1)
    · have HY:Hid (jA s=false):=tT (fun i hi=>by
        by_cases h1:1<=i
        · have:=hall.out i (by omega) h1;simp only[Bool.and_assoc,this];simp
        · simp[h1])
      go_wp2;go_ret;exact⟨aB HY.out.symm,rfl⟩
theorem fq(d:ByteArray)(k:Nat)(h:k<=d.size):k<=(bi d k).2/\(bi d k).2<=d.size/\(aG (bi d k).1=true->k<(bi d k).2):=by
  have a:=wL d k h;have b:=pm d (skip d k) a.2;unfold bi;simp only
  split
  · exact⟨by omega,b.2,by simp[aG]⟩
  · split
    · exact⟨by omega,b.2,by simp[aG]⟩
    · exact⟨by simp only;omega,b.2,fun _=>by simp only;omega⟩
def bQ(d:ByteArray):Nat->Nat->pF×Nat
  | 0,k=>(⟨⟨#[]⟩,3,false,k⟩,k)
  | f+1,k =>
    if aG (bi d k).1=true/\¬(bi d k).1.text.toList=[36,41] then
      if jA (bi d k).1.text=true then(⟨⟨#[]⟩,2,false,(bi d k).1.pos⟩,(bi d k).2) else bQ d f (bi d k).2
    else if(bi d k).1.fin=true then(⟨⟨#[]⟩,3,false,(bi d k).1.pos⟩,(bi d k).2) else bi d k
def aQ(d:ByteArray)(k:Nat):pF×Nat:=bQ d (d.size-k+1) k
theorem tj(d:ByteArray)(f k:Nat)(hk:k<=d.size)(hf:d.size-k+1<=f):bQ d f k=aQ d k:=by
  unfold aQ
  suffices h:∀f g k,k<=d.size->d.size-k+1<=f->d.size-k+1<=g->bQ d f k=bQ d g k from h _ _ _ hk hf (Nat.le_refl _)
  clear hf hk f k;intro f
  induction f with
  | zero=>intro g k _ h;omega
  | succ f ih =>
    intro g k hk hf hg
    cases g with
    | zero=>omega
    | succ g =>
      rw[bQ,bQ]
      split
      · next h =>
        have hl:=fq d k hk;have hl2:=hl.2.2 h.1
        split
        · rfl
        · exact ih g (bi d k).2 hl.2.1 (by omega) (by omega)
      · rfl
theorem uA(d:ByteArray)(k:Nat)(hk:k<=d.size)(h1:aG (bi d k).1=true)(h2:((bi d k).1.text.toList == [36,41])=false)(h3:jA (bi d k).1.text=false):aQ d k=aQ d (bi d k).2:=by
  have hl:=fq d k hk;have hl2:=hl.2.2 h1
  conv=>lhs;unfold aQ
  rw[bQ,if_pos ⟨h1,by simpa using h2⟩,if_neg (by simp[h3]),tj d _ _ hl.2.1 (by omega)]
theorem qi(d:ByteArray)(k:Nat)(h1:aG (bi d k).1=true)(h2:((bi d k).1.text.toList == [36,41])=false)(h3:jA (bi d k).1.text=true):aQ d k=(⟨⟨#[]⟩,2,false,(bi d k).1.pos⟩,(bi d k).2):=by
  unfold aQ;rw[bQ,if_pos ⟨h1,by simpa using h2⟩,if_pos h3]
theorem qv(d:ByteArray)(k:Nat)(h1:aG (bi d k).1=false)(h2:(bi d k).1.fin=true):aQ d k=(⟨⟨#[]⟩,3,false,(bi d k).1.pos⟩,(bi d k).2):=by
  unfold aQ;rw[bQ,if_neg (by simp[h1]),if_pos h2]
theorem rT(d:ByteArray)(k:Nat)(h1:aG (bi d k).1=false)(h2:(bi d k).1.fin=false):aQ d k=bi d k:=by
  unfold aQ;rw[bQ,if_neg (by simp[h1]),if_neg (by simp[h2])]
theorem oO(d:ByteArray)(k:Nat)(h1:aG (bi d k).1=true)(h2:((bi d k).1.text.toList == [36,41])=true):aQ d k=bi d k:=by
  unfold aQ;rw[bQ,if_neg (by intro h;exact h.2 (by simpa using h2))];rw[if_neg (by intro h;simp[aG,h]at h1)]
theorem gZ(d:ByteArray)(k:Nat)(hk:k<=d.size):k<=(aQ d k).2/\(aQ d k).2<=d.size:=by
  unfold aQ
  suffices h:∀f k,k<=d.size->k<=(bQ d f k).2/\(bQ d f k).2<=d.size from h _ _ hk
  clear hk k;intro f
  induction f with
  | zero=>intro k hk;simp[bQ,hk]
  | succ f ih =>
    intro k hk;have hl:=fq d k hk;rw[bQ]
    split
    · split
      · exact⟨hl.1,hl.2.1⟩
      · have:=ih (bi d k).2 hl.2.1;omega
    · split
      · exact⟨hl.1,hl.2.1⟩
      · exact⟨hl.1,hl.2.1⟩
def dg(d:ByteArray):Nat->Nat->pF×Nat
  | 0,k=>(⟨⟨#[]⟩,0,true,k⟩,k)
  | f+1,k =>
    if aG (bi d k).1=true/\(bi d k).1.text.toList=[36,40] then
      if aG (aQ d (bi d k).2).1=true then dg d f (aQ d (bi d k).2).2 else aQ d (bi d k).2
    else bi d k
def av(d:ByteArray)(k:Nat):pF×Nat:=dg d (d.size-k+1) k
theorem yc(d:ByteArray)(f k:Nat)(hk:k<=d.size)(hf:d.size-k+1<=f):dg d f k=av d k:=by
  unfold av
  suffices h:∀f g k,k<=d.size->d.size-k+1<=f->d.size-k+1<=g->dg d f k=dg d g k from h _ _ _ hk hf (Nat.le_refl _)
  clear hf hk f k;intro f
  induction f with
  | zero=>intro g k _ h;omega
  | succ f ih =>
    intro g k hk hf hg
    cases g with
    | zero=>omega
    | succ g =>
      rw[dg,dg]
      split
      · next h =>
        have hl:=fq d k hk;have hl2:=hl.2.2 h.1;have hc:=gZ d (bi d k).2 hl.2.1
        split
        · exact ih g _ hc.2 (by omega) (by omega)
        · rfl
      · rfl
theorem Cv(d:ByteArray)(k:Nat)(hk:k<=d.size)(h1:aG (bi d k).1=true)(h2:((bi d k).1.text.toList == [36,40])=true)(h3:aG (aQ d (bi d k).2).1=true) :
    av d k=av d (aQ d (bi d k).2).2:=by
  have hl:=fq d k hk;have hl2:=hl.2.2 h1;have hc:=gZ d (bi d k).2 hl.2.1
  conv=>lhs;unfold av
  rw[dg,if_pos ⟨h1,by simpa using h2⟩,if_pos h3,yc d _ _ hc.2 (by omega)]
theorem rH(d:ByteArray)(k:Nat)(h1:aG (bi d k).1=true)(h2:((bi d k).1.text.toList == [36,40])=true)(h3:aG (aQ d (bi d k).2).1=false) :
    av d k=aQ d (bi d k).2:=by
  unfold av;rw[dg,if_pos ⟨h1,by simpa using h2⟩,if_neg (by simp[h3])]
theorem pi(d:ByteArray)(k:Nat)(h:aG (bi d k).1=false∨((bi d k).1.text.toList == [36,40])=false):av d k=bi d k:=by
  unfold av
  rw[dg,if_neg (by rintro ⟨a,b⟩;rcases h with h | h;· simp[h]at a
                         · simp[b]at h)]
theorem eM(d:ByteArray)(k:Nat)(hk:k<=d.size):k<=(av d k).2/\(av d k).2<=d.size/\(aG (av d k).1=true->k<(av d k).2):=by
  unfold av
  suffices h:∀f k,k<=d.size->k<=(dg d f k).2/\(dg d f k).2<=d.size/\(aG (dg d f k).1=true->k<(dg d f k).2) from h _ _ hk
  clear hk k;intro f
  induction f with
  | zero=>intro k hk;simp[dg,hk,aG]
  | succ f ih =>
    intro k hk;have hl:=fq d k hk;have hc:=gZ d (bi d k).2 hl.2.1;rw[dg]
    split
    · next h =>
      have hl2:=hl.2.2 h.1
      split
      · have:=ih (aQ d (bi d k).2).2 hc.2;omega
      · omega
    · exact hl
def iq(w:World)(r:Nat)(n d:ByteArray)(i:pF):Prop :=
 w.heap[r]?=some (.cells #[.string i.text,.int .i64 i.rule,.bool i.fin,.string n,.int .i64 (aL d i.pos),.int .i64 (aW d i.pos)] 255 (0,0))
theorem iq.cells{w:World}{r:Nat}{n d t:ByteArray}{u:Int}{f:Bool}{p:Nat}(h:iq w r n d ⟨t,u,f,p⟩) :
  w.cell? ⟨r,0,none⟩=some (.string t)/\w.cell? ⟨r,1,none⟩=some (.int .i64 u)/\w.cell? ⟨r,2,none⟩=some (.bool f) /\
  w.cell? ⟨r,3,none⟩=some (.string n)/\w.cell? ⟨r,4,none⟩=some (.int .i64 (aL d p))/\w.cell? ⟨r,5,none⟩=some (.int .i64 (aW d p)):=by
 refine⟨?_,?_,?_,?_,?_,?_⟩ <;> (rw[aa h];rfl)
theorem iq.kept{w w':World}{r:Nat}{n d:ByteArray}{i:pF}{S:List Nat}(h:iq w r n d i)(hk:ab S w w')(hb:r∉S):iq w' r n d i:=hk.get h hb
theorem nI{w:World}{r:Nat}{n d:ByteArray}{i:pF}(h:iq w r n d i)(j:pF) :
  iq ((((((w.setCell ⟨r,0,none⟩ (.string j.text)).setCell ⟨r,1,none⟩ (.int .i64 j.rule)).setCell ⟨r,2,none⟩ (.bool j.fin)).setCell ⟨r,3,none⟩ (.string n)).setCell ⟨r,4,none⟩ (.int .i64 (aL d j.pos))).setCell ⟨r,5,none⟩ (.int .i64 (aW d j.pos))) r n d j:=by
 have:=ah (ah (ah (ah (ah (ah h 0 (.string j.text)) 1 (.int .i64 j.rule)) 2 (.bool j.fin)) 3 (.string n)) 4 (.int .i64 (aL d j.pos))) 5 (.int .i64 (aW d j.pos));unfold iq;rw[this];simp
theorem rm{w:World}{b r:Nat}{o:Obj}(h:w.heap[b]?=some o)(hne:b≠r)(a0 a1 a2 a3 a4 a5:Value) :
  ((((((w.setCell ⟨r,0,none⟩ a0).setCell ⟨r,1,none⟩ a1).setCell ⟨r,2,none⟩ a2).setCell ⟨r,3,none⟩ a3).setCell ⟨r,4,none⟩ a4).setCell ⟨r,5,none⟩ a5).heap[b]?=some o:=by
 rw[Below.heap_setCell _ _ _ _ hne,Below.heap_setCell _ _ _ _ hne,Below.heap_setCell _ _ _ _ hne,Below.heap_setCell _ _ _ _ hne,Below.heap_setCell _ _ _ _ hne,Below.heap_setCell _ _ _ _ hne];exact h
theorem oo(d:ByteArray)(k:Nat)(hd:d.size<=1024):(bi d k).1.text.size<=1024:=by
 unfold bi;simp only
 split
 ·simp[ByteArray.size]
 ·split
  ·simp[ByteArray.size]
  ·simp;omega
set_option maxRecDepth 100000 in
theorem rF(b k:Nat)(n d:ByteArray)(w:World)(hd:d.size<=1024)(hk:k<=d.size)(h:bN w b n d k) :
  Calls Tryz.prog 204 #[.pointer (some ⟨b,0,none⟩)] w fun e w'=>e=.returned (eu n d (aQ d k).1)/\bN w' b n d (aQ d k).2/\ab [b] w w':=by
 have hbw:=ae h;go_enter Tryz.func204,Tryz.ntmps204;go_wp2_with fail;refine(sx b k n d _ hd hk (by exact h.kept ((ab.refl [] _).alloc _) (by simp))).mono ?_;rintro e w1 ⟨rfl,h1,hk1⟩;have hr1:w1.heap[w.heap.size]?=some (.cells km 255 (0,0)):=hk1.get (heap_alloc_new _ _) (by simp;omega);have hkw:ab [b] w w1:=((ab.refl _ _).alloc _).trans hk1;have hb1:=ae h1;have hR1:=ae hr1;simp only[eu];go_wp2
 go_loopg [] (d.size-k) (fun g wr=>∃j,j<=d.size/\g=d.size-j/\Hid (aQ d k=aQ d j)/\bN wr b n d (bi d j).2/\iq wr w1.heap.size n d (bi d j).1/\wr.heap[w.heap.size]?=some (.cells km 255 (0,0))/\ab [b] w wr)
 case atStart=>exact⟨k,hk,rfl,rfl,h1.kept ((ab.refl [] _).alloc _) (by simp),heap_alloc_new _ _,((ab.refl [] _).alloc _).get hr1 (by simp),hkw.alloc _⟩
 case round =>
  obtain⟨j,hj,hg,hs,h2,hi,hr,hkp⟩:=hrel;have hrl:=fq d j hj;have htx:=oo d j hd;have L1:Hid (_->_->_->aQ d j=_):=uA d j hj;have L2:Hid (_->_->_->aQ d j=_):=qi d j;have L3:Hid (_->_->aQ d j=_):=qv d j;have L4:Hid (_->_->aQ d j=_):=rT d j;have L5:Hid (_->_->aQ d j=_):=oO d j;generalize hrr:bi d j=r at *;obtain⟨⟨t,u,f,p⟩,z⟩:=r;have HR:Hid (bi d j=(⟨t,u,f,p⟩,z)):=hrr;clear hrr;simp only at h2 hi hrl htx;obtain⟨q0,q1,q2,q3,q4,q5⟩:=hi.cells;have hRw:=ae hr;have hbr:=ae h2;have hIw:=ae hi
  cases hw:(u==0 && !f)
  ·cases hf:f
   ·have HF:Hid (aQ d j=(⟨t,u,false,p⟩,z)):=by have:=L4.out (by simpa [aG] using hw) hf;rw[hf]at this;exact this
    subst hf;have hw':(u==0)=false:=by simpa using hw
    clear L1 L2 L3 L4 L5;go_wp2_with fail;refine(cr t n u (aL d p) (aW d p) _ _).mono ?_;rintro e w2 ⟨rfl,hk2⟩;have hi2:=hi.kept hk2 (by simp);have h22:=h2.kept hk2 (by simp);have hr2:=hk2.get hr (by simp);have hkp2:=hkp.trans (hk2.mono (by simp));clear q0 q1 q2 q3 q4 q5 hi h2 hr hkp hk2;obtain⟨q0,q1,q2,q3,q4,q5⟩:=hi2.cells;obtain⟨z0,z1,z2,z3,z4,z5⟩:=fS hr2;have y:=ak hr2;go_wp2
    exact bodyPost_ret (v:=eu n d ⟨t,u,false,p⟩) (by simp[results,Tryz.results204,go_sem,eu,z0,z1,z2,z3,z4,z5]) rfl
     (by rw[hs.out,HF.out];exact⟨rfl,fF h22 (by omega) _ _ _ _ _ _,fV hkp2 (Nat.le_refl _) _ _ _ _ _ _⟩)
   ·have HF:Hid (aQ d j=(⟨⟨#[]⟩,3,false,p⟩,z)):=L3.out (by simpa [aG] using hw) hf
    subst hf;clear L1 L2 L3 L4 L5;go_wp2_with fail;refine(cr t n u (aL d p) (aW d p) _ _).mono ?_;rintro e w2 ⟨rfl,hk2⟩;have hi2:=hi.kept hk2 (by simp);have h22:=h2.kept hk2 (by simp);have hr2:=hk2.get hr (by simp);have hkp2:=hkp.trans (hk2.mono (by simp));clear q0 q1 q2 q3 q4 q5 hi h2 hr hkp hk2;obtain⟨q0,q1,q2,q3,q4,q5⟩:=hi2.cells;obtain⟨z0,z1,z2,z3,z4,z5⟩:=fS hr2;have y:=ak hr2;go_wp2
    exact bodyPost_ret (v:=eu n d ⟨⟨#[]⟩,3,false,p⟩) (by simp[results,Tryz.results204,go_sem,eu,z0,z1,z2,z3,z4,z5]) rfl
     (by rw[hs.out,HF.out];exact⟨rfl,fF h22 (by omega) _ _ _ _ _ _,fV hkp2 (Nat.le_refl _) _ _ _ _ _ _⟩)
  ·cases hx:(t.toList == [36,41])
   ·cases hy:jA t
    ·have HF:Hid (aQ d j=aQ d z):=L1.out hw hx hy
     clear L1 L2 L3 L4 L5;go_wp2_with fail;refine(cr t n u (aL d p) (aW d p) _ _).mono ?_;rintro e w2 ⟨rfl,hk2⟩;have hi2:=hi.kept hk2 (by simp);have h22:=h2.kept hk2 (by simp);have hr2:=hk2.get hr (by simp);have hkp2:=hkp.trans (hk2.mono (by simp));clear q0 q1 q2 q3 q4 q5 hi h2 hr hkp hk2;obtain⟨q0,q1,q2,q3,q4,q5⟩:=hi2.cells;go_wp2_with fail;refine(rW t _ (by omega)).mono ?_;rintro e w3 ⟨rfl,rfl⟩;go_wp2_with fail;refine(sx b z n d _ hd hrl.2.1 h22).mono ?_;rintro e w4 ⟨rfl,h4,hk4⟩;have hi4:=hi2.kept hk4 (by simp;omega);have hr4:=hk4.get hr2 (by simp;omega);have hkp4:=hkp2.trans hk4;have yy:=ak hi4;have hI4:=ae hi4;clear q0 q1 q2 q3 q4 q5;obtain⟨q0,q1,q2,q3,q4,q5⟩:=hi4.cells;simp only[eu];go_wp2
     go_roundg (d.size-z)
     case measure=>have:=hrl.2.2 hw;omega
     case rel=>exact⟨z,hrl.2.1,rfl,hs.out.trans HF.out,fF h4 (by omega) _ _ _ _ _ _,nI hi4 _,rm hr4 (by omega) _ _ _ _ _ _,fV hkp4 (by omega) _ _ _ _ _ _⟩
    ·have HF:Hid (aQ d j=(⟨⟨#[]⟩,2,false,p⟩,z)):=L2.out hw hx hy
     clear L1 L2 L3 L4 L5;go_wp2_with fail;refine(cr t n u (aL d p) (aW d p) _ _).mono ?_;rintro e w2 ⟨rfl,hk2⟩;have hi2:=hi.kept hk2 (by simp);have h22:=h2.kept hk2 (by simp);have hr2:=hk2.get hr (by simp);have hkp2:=hkp.trans (hk2.mono (by simp));clear q0 q1 q2 q3 q4 q5 hi h2 hr hkp hk2;obtain⟨q0,q1,q2,q3,q4,q5⟩:=hi2.cells;go_wp2_with fail;refine(rW t _ (by omega)).mono ?_;rintro e w3 ⟨rfl,rfl⟩;obtain⟨z0,z1,z2,z3,z4,z5⟩:=fS hr2;have y:=ak hr2;go_wp2
     exact bodyPost_ret (v:=eu n d ⟨⟨#[]⟩,2,false,p⟩) (by simp[results,Tryz.results204,go_sem,eu,z0,z1,z2,z3,z4,z5]) rfl
      (by rw[hs.out,HF.out];exact⟨rfl,fF h22 (by omega) _ _ _ _ _ _,fV hkp2 (Nat.le_refl _) _ _ _ _ _ _⟩)
   ·have HF:Hid (aQ d j=(⟨t,u,f,p⟩,z)):=L5.out hw hx
    clear L1 L2 L3 L4 L5;have hf:f=false:=by cases f;rfl;simp at hw
    subst hf;have hw':(u==0)=true:=by simpa using hw
    go_wp2_with fail;refine(cr t n u (aL d p) (aW d p) _ _).mono ?_;rintro e w2 ⟨rfl,hk2⟩;have hi2:=hi.kept hk2 (by simp);have h22:=h2.kept hk2 (by simp);have hr2:=hk2.get hr (by simp);have hkp2:=hkp.trans (hk2.mono (by simp));clear q0 q1 q2 q3 q4 q5 hi h2 hr hkp hk2;obtain⟨q0,q1,q2,q3,q4,q5⟩:=hi2.cells;obtain⟨z0,z1,z2,z3,z4,z5⟩:=fS hr2;have y:=ak hr2;go_wp2
    exact bodyPost_ret (v:=eu n d ⟨t,u,false,p⟩) (by simp[results,Tryz.results204,go_sem,eu,z0,z1,z2,z3,z4,z5]) rfl
     (by rw[hs.out,HF.out];exact⟨rfl,fF h22 (by omega) _ _ _ _ _ _,fV hkp2 (Nat.le_refl _) _ _ _ _ _ _⟩)
set_option maxRecDepth 100000 in
theorem pN(b k:Nat)(n d:ByteArray)(w:World)(hd:d.size<=1024)(hk:k<=d.size)(h:bN w b n d k) :
  Calls Tryz.prog 155 #[.pointer (some ⟨b,0,none⟩)] w fun e w'=>e=.returned (eu n d (av d k).1)/\bN w' b n d (av d k).2/\ab [b] w w':=by
 have hbw:=ae h;go_enter Tryz.func155,Tryz.ntmps155;go_wp2_with fail;refine(sx b k n d _ hd hk (by exact h.kept ((ab.refl [] _).alloc _) (by simp))).mono ?_;rintro e w1 ⟨rfl,h1,hk1⟩;have hr1:w1.heap[w.heap.size]?=some (.cells km 255 (0,0)):=hk1.get (heap_alloc_new _ _) (by simp;omega);have hkw:ab [b] w w1:=((ab.refl _ _).alloc _).trans hk1;have hb1:=ae h1;have hR1:=ae hr1;simp only[eu];go_wp2
 go_loopg [4] (d.size-k) (fun g _ wr=>∃j,j<=d.size/\g=d.size-j/\Hid (av d k=av d j)/\bN wr b n d (bi d j).2/\iq wr w1.heap.size n d (bi d j).1/\wr.heap[w.heap.size]?=some (.cells km 255 (0,0))/\ab [b] w wr)
 case atStart=>exact⟨k,hk,rfl,rfl,h1.kept ((ab.refl [] _).alloc _) (by simp),heap_alloc_new _ _,((ab.refl [] _).alloc _).get hr1 (by simp),hkw.alloc _⟩
 case round =>
  obtain⟨j,hj,hg,hs,h2,hi,hr,hkp⟩:=hrel;have hrl:=fq d j hj;have htx:=oo d j hd;have L1:Hid (_->_->_->av d j=_):=Cv d j hj;have L2:Hid (_->_->_->av d j=_):=rH d j;have L3:Hid (_->av d j=_):=pi d j;generalize hrr:bi d j=r at *;obtain⟨⟨t,u,f,p⟩,z⟩:=r;have HR:Hid (bi d j=(⟨t,u,f,p⟩,z)):=hrr;clear hrr;simp only at h2 hi hrl htx;obtain⟨q0,q1,q2,q3,q4,q5⟩:=hi.cells;have hRw:=ae hr;have hbr:=ae h2;have hIw:=ae hi
  cases hw:(u==0 && !f)
  ·have HF:Hid (av d j=(⟨t,u,f,p⟩,z)):=L3.out (Or.inl hw)
   clear L1 L2 L3;go_wp2_with fail;refine(cr t n u (aL d p) (aW d p) _ _).mono ?_;rintro e w2 ⟨rfl,hk2⟩;have hi2:=hi.kept hk2 (by simp);have h22:=h2.kept hk2 (by simp);have hr2:=hk2.get hr (by simp);have hkp2:=hkp.trans (hk2.mono (by simp));clear q0 q1 q2 q3 q4 q5 hi h2 hr hkp hk2;obtain⟨q0,q1,q2,q3,q4,q5⟩:=hi2.cells;obtain⟨z0,z1,z2,z3,z4,z5⟩:=fS hr2;have y:=ak hr2;go_wp2
   exact bodyPost_ret (v:=eu n d ⟨t,u,f,p⟩) (by simp[results,Tryz.results155,go_sem,eu,z0,z1,z2,z3,z4,z5]) rfl
    (by rw[hs.out,HF.out];exact⟨rfl,fF h22 (by omega) _ _ _ _ _ _,fV hkp2 (Nat.le_refl _) _ _ _ _ _ _⟩)
  ·cases hx:(t.toList == [36,40])
   ·have HF:Hid (av d j=(⟨t,u,f,p⟩,z)):=L3.out (Or.inr hx)
    clear L1 L2 L3;go_wp2_with fail;refine(cr t n u (aL d p) (aW d p) _ _).mono ?_;rintro e w2 ⟨rfl,hk2⟩;have hi2:=hi.kept hk2 (by simp);have h22:=h2.kept hk2 (by simp);have hr2:=hk2.get hr (by simp);have hkp2:=hkp.trans (hk2.mono (by simp));clear q0 q1 q2 q3 q4 q5 hi h2 hr hkp hk2;obtain⟨q0,q1,q2,q3,q4,q5⟩:=hi2.cells;obtain⟨z0,z1,z2,z3,z4,z5⟩:=fS hr2;have y:=ak hr2;go_wp2
    exact bodyPost_ret (v:=eu n d ⟨t,u,f,p⟩) (by simp[results,Tryz.results155,go_sem,eu,z0,z1,z2,z3,z4,z5]) rfl
     (by rw[hs.out,HF.out];exact⟨rfl,fF h22 (by omega) _ _ _ _ _ _,fV hkp2 (Nat.le_refl _) _ _ _ _ _ _⟩)
   ·have hcl:=gZ d z hrl.2.1
    have L4:Hid (_->av d j=av d _):=fun h=>L1.out hw hx h
    have L5:Hid (_->av d j=_):=fun h=>L2.out hw hx h
    clear L1 L2 L3;generalize hcc:aQ d z=c at *;obtain⟨⟨ct,cu,cf,cp⟩,cz⟩:=c;have HC:Hid (aQ d z=(⟨ct,cu,cf,cp⟩,cz)):=hcc;clear hcc;simp only at hcl
    cases hcw:(cu==0 && !cf)
    ·have HF:Hid (av d j=(⟨ct,cu,cf,cp⟩,cz)):=L5.out hcw
     clear L4 L5;go_wp2_with fail;refine(cr t n u (aL d p) (aW d p) _ _).mono ?_;rintro e w2 ⟨rfl,hk2⟩;have hi2:=hi.kept hk2 (by simp);have h22:=h2.kept hk2 (by simp);have hr2:=hk2.get hr (by simp);have hkp2:=hkp.trans (hk2.mono (by simp));clear q0 q1 q2 q3 q4 q5 hi h2 hr hkp hk2;obtain⟨q0,q1,q2,q3,q4,q5⟩:=hi2.cells;go_wp2_with fail;refine(rF b z n d _ hd hrl.2.1 h22).mono ?_;rintro e w3 ⟨rfl,h3,hk3⟩;have hi3:=hi2.kept hk3 (by simp;omega);have hr3:=hk3.get hr2 (by simp;omega);have hkp3:=hkp2.trans hk3;have hb3:=ae h3;have hI3:=ae hi3;have hR3:=ae hr3;simp only[eu];rw[HC.out];simp only;go_wp2_with fail;refine(cr ct n cu (aL d cp) (aW d cp) _ _).mono ?_;rintro e w4 ⟨rfl,hk4⟩;have hl4:iq w4 w3.heap.size n d ⟨ct,cu,cf,cp⟩:=hk4.get (heap_alloc_new _ _) (by simp);have hi4:=(hi3.kept ((ab.refl [] _).alloc _) (by simp)).kept hk4 (by simp);have h4:=(h3.kept ((ab.refl [] _).alloc _) (by simp)).kept hk4 (by simp);have hr4:=hk4.get (((ab.refl [] _).alloc _).get hr3 (by simp)) (by simp);have hkp4:=(hkp3.alloc _).trans (hk4.mono (by simp));rw[HC.out]at h4;simp only at h4;have hb4:=ae h4;have hI4:=ae hi4;have hR4:=ae hr4;clear q0 q1 q2 q3 q4 q5 hi2 hr2 hkp2 hk4 hi3 hr3 hkp3 hk3 h3 h22;obtain⟨p0,p1,p2,p3,p4,p5⟩:=hl4.cells;obtain⟨z0,z1,z2,z3,z4,z5⟩:=fS hr4;have y:=ak hr4;go_wp2
     exact bodyPost_ret (v:=eu n d ⟨ct,cu,cf,cp⟩) (by simp[results,Tryz.results155,go_sem,eu,z0,z1,z2,z3,z4,z5]) rfl
      (by rw[hs.out,HF.out];exact⟨rfl,fF h4 (by omega) _ _ _ _ _ _,fV hkp4 (Nat.le_refl _) _ _ _ _ _ _⟩)
    ·have HF:Hid (av d j=av d cz):=L4.out hcw
     clear L4 L5;go_wp2_with fail;refine(cr t n u (aL d p) (aW d p) _ _).mono ?_;rintro e w2 ⟨rfl,hk2⟩;have hi2:=hi.kept hk2 (by simp);have h22:=h2.kept hk2 (by simp);have hr2:=hk2.get hr (by simp);have hkp2:=hkp.trans (hk2.mono (by simp));clear q0 q1 q2 q3 q4 q5 hi h2 hr hkp hk2;obtain⟨q0,q1,q2,q3,q4,q5⟩:=hi2.cells;go_wp2_with fail;refine(rF b z n d _ hd hrl.2.1 h22).mono ?_;rintro e w3 ⟨rfl,h3,hk3⟩;have hi3:=hi2.kept hk3 (by simp;omega);have hr3:=hk3.get hr2 (by simp;omega);have hkp3:=hkp2.trans hk3;have hb3:=ae h3;have hI3:=ae hi3;have hR3:=ae hr3;simp only[eu];rw[HC.out];simp only;go_wp2_with fail;refine(cr ct n cu (aL d cp) (aW d cp) _ _).mono ?_;rintro e w4 ⟨rfl,hk4⟩;have hl4:iq w4 w3.heap.size n d ⟨ct,cu,cf,cp⟩:=hk4.get (heap_alloc_new _ _) (by simp);have hi4:=(hi3.kept ((ab.refl [] _).alloc _) (by simp)).kept hk4 (by simp);have h4:=(h3.kept ((ab.refl [] _).alloc _) (by simp)).kept hk4 (by simp);have hr4:=hk4.get (((ab.refl [] _).alloc _).get hr3 (by simp)) (by simp);have hkp4:=(hkp3.alloc _).trans (hk4.mono (by simp));rw[HC.out]at h4;simp only at h4;have hb4:=ae h4;have hI4:=ae hi4;have hR4:=ae hr4;clear q0 q1 q2 q3 q4 q5 hi2 hr2 hkp2 hk4 hi3 hr3 hkp3 hk3 h3 h22;obtain⟨p0,p1,p2,p3,p4,p5⟩:=hl4.cells;go_wp2_with fail;refine(sx b cz n d _ hd hcl.2 h4).mono ?_;rintro e w5 ⟨rfl,h5,hk5⟩;have hi5:=hi4.kept hk5 (by simp;omega);have hr5:=hk5.get hr4 (by simp;omega);have hkp5:=hkp4.trans hk5;have yy:=ak hi5;have hI5:=ae hi5;obtain⟨q0,q1,q2,q3,q4,q5⟩:=hi5.cells;simp only[eu];go_wp2
     go_roundg (d.size-cz)
     case measure=>have:=hrl.2.2 hw;omega
     case rel=>exact⟨cz,hcl.2,rfl,hs.out.trans HF.out,fF h5 (by omega) _ _ _ _ _ _,nI hi5 _,rm hr5 (by omega) _ _ _ _ _ _,fV hkp5 (by omega) _ _ _ _ _ _⟩
def jl(n:Int):Bool:=decide (33<=n)&&decide (n<=126) && !(n==36)
def ff(s:ByteArray):Bool:=decide (1<=s.size)&&decide (s.size<=8)&&(List.range s.size).all (fun i=>jl (aF s i))
def cn(n d:ByteArray):Int:=if ff n=false then 2 else if 1024<d.size then 3 else 0
theorem kM(s:ByteArray)(h:s.size<1∨8<s.size):ff s=false:=by
  unfold ff
  rcases h with h | h
  · simp[show ¬1<=s.size by omega]
  · simp[show ¬s.size<=8 by omega]
theorem Cb(s:ByteArray)(i:Nat)(h:i<s.size)(hb:jl (aF s i)=false):ff s=false:=by
  unfold ff
  have:(List.range s.size).all (fun i=>jl (aF s i))=false:=by
    rw[List.all_eq_false];exact⟨i,by simp[h],by simp[hb]⟩
  simp[this]
theorem yk(s:ByteArray)(h1:1<=s.size)(h2:s.size<=8)(h:∀i,i<s.size->jl (aF s i)=true):ff s=true:=by
  unfold ff
  have:(List.range s.size).all (fun i=>jl (aF s i))=true:=by
    rw[List.all_eq_true];intro i hi;exact h i (by simpa using hi)
  simp[this,h1,h2]
theorem pk(s:ByteArray)(w:World)(hs:s.size<=1073741824) :
    Calls Tryz.prog 77 #[.string s] w fun e w'=>e=.returned (.bool (ff s))/\w'=w:=by
  by_cases h1:1<=s.size
  · by_cases h2:s.size<=8
    · go_enter Tryz.func77,Tryz.ntmps77
      go_wp2
      go_loopg [3] s.size (fun g i wr=>∃k:Nat,k<=s.size/\g=s.size-k/\i=.int .i64 k/\Hid (∀i,i<k->jl (aF s i)=true)/\wr=w)
      case atStart=>exact⟨0,by omega,by omega,rfl,fun i h=>by omega,rfl⟩
      case round =>
        obtain⟨k,hk,hg,rfl,hall,rfl⟩:=hrel
        by_cases hlt:k<s.size
        · have hq:∀b:Bool,jl (s[k].toNat:Int)=b->jl (aF s k)=b:=fun b h=>by rw[bI s k hlt];exact h
          have HQ:Hid (∀b:Bool,jl (s[k].toNat:Int)=b->jl (aF s k)=b):=hq;clear hq;go_wp2
          all_goals first
            | (go_ret;refine⟨aB ?_,rfl⟩;rw[Cb s k hlt (HQ.out false ?_)];first | (simp[jl];omega) | (simp[jl];simp at *;omega))
            | (go_roundg (s.size-(k+1))
               case measure=>omega
               case rel =>
                 refine⟨k+1,by omega,rfl,by go_num,?_,rfl⟩;intro i hi
                 by_cases e:i=k
                 · subst e;exact HQ.out true (by simp[jl];simp at *;omega)
                 · exact hall.out i (by omega))
        · go_wp2
          go_ret;exact⟨aB (yk s h1 h2 (fun i hi=>hall.out i (by omega))).symm,rfl⟩
    · go_enter Tryz.func77,Tryz.ntmps77
      go_wp2
      all_goals go_ret
      all_goals exact⟨aB (kM s (Or.inr (by omega))).symm,rfl⟩
  · go_enter Tryz.func77,Tryz.ntmps77
    go_wp2
    all_goals go_ret
    all_goals exact⟨aB (kM s (Or.inl (by omega))).symm,rfl⟩
theorem l9(n d:ByteArray)(w:World)(hn:n.size<=1073741824)(hd:d.size<=4294967296) :
    Calls Tryz.prog 49 #[.string n,.string d] w fun e w'=>e=.returned (.int .i64 (cn n d))/\w'=w:=by
  cases hb:ff n
  · go_enter Tryz.func49,Tryz.ntmps49
    go_wp2_with fail;refine(pk n _ hn).mono ?_;rintro e w1 ⟨rfl,rfl⟩;go_wp2;go_ret;exact⟨am (by simp[cn,hb]),rfl⟩
  · by_cases hl:1024<d.size
    · go_enter Tryz.func49,Tryz.ntmps49
      go_wp2_with fail;refine(pk n _ hn).mono ?_;rintro e w1 ⟨rfl,rfl⟩;go_wp2;go_ret;exact⟨am (by simp[cn,hb,hl]),rfl⟩
    · go_enter Tryz.func49,Tryz.ntmps49
      go_wp2_with fail;refine(pk n _ hn).mono ?_;rintro e w1 ⟨rfl,rfl⟩;go_wp2;go_ret;exact⟨am (by simp[cn,hb,hl]),rfl⟩
def aC(fs:Fs)(i:Nat):ByteArray:=(fs.getD i (⟨#[]⟩,⟨#[]⟩)).1
def aj(fs:Fs)(i:Nat):ByteArray:=(fs.getD i (⟨#[]⟩,⟨#[]⟩)).2
def mC(fs:Fs):List Value :=
  [.string (aC fs 0),.string (aj fs 0),.string (aC fs 1),.string (aj fs 1),.string (aC fs 2),.string (aj fs 2),.string (aC fs 3),.string (aj fs 3),.int .i64 fs.length]
def bm(w:World)(v t:Nat)(fs:Fs)(more:List Value):Prop:=w.heap[v]?=some (.cells (mC fs++more).toArray t (0,0))/\fs.length<=4
theorem bm.name{w:World}{v t:Nat}{fs:Fs}{more:List Value}(h:bm w v t fs more)(i:Nat)(hi:i<4) :
    w.cell? ⟨v,i*2,none⟩=some (.string (aC fs i))/\w.cell? ⟨v,i*2+1,none⟩=some (.string (aj fs i)):=by
  constructor <;> rw[aa h.1]
  · match i,hi with
    | 0,_=>rfl
    | 1,_=>rfl
    | 2,_=>rfl
    | 3,_=>rfl
  · match i,hi with
    | 0,_=>rfl
    | 1,_=>rfl
    | 2,_=>rfl
    | 3,_=>rfl
theorem bm.count{w:World}{v t:Nat}{fs:Fs}{more:List Value}(h:bm w v t fs more) :
    w.cell? ⟨v,8,none⟩=some (.int .i64 fs.length):=by
  rw[aa h.1];rfl
def cY(n:ByteArray):Fs->Nat->Int
  | [],_=>-1
  | f :: r,i=>if(f.1.toList==n.toList)=true then i else cY n r (i+1)
def bt(fs:Fs)(n:ByteArray):Int:=cY n fs 0
theorem Cy{α:Type}(l:List α)(k:Nat)(h:k<l.length):l.drop k=l[k] :: l.drop (k+1):=List.drop_eq_getElem_cons h
theorem wB(fs:Fs)(k:Nat)(h:k<fs.length):aC fs k=fs[k].1:=by
  unfold aC;rw[List.getD_eq_getElem?_getD,List.getElem?_eq_getElem h];rfl
theorem zA(fs:Fs)(n:ByteArray)(k:Nat)(h:k<fs.length)(he:bt fs n=cY n (fs.drop k) k)(hb:((aC fs k).toList==n.toList)=true):bt fs n=k:=by
  rw[he,Cy _ _ h,cY,<-wB fs k h,if_pos hb]
theorem we(fs:Fs)(n:ByteArray)(k:Nat)(h:k<fs.length)(he:bt fs n=cY n (fs.drop k) k)(hb:((aC fs k).toList==n.toList)=false):bt fs n=cY n (fs.drop (k+1)) (k+1):=by
  rw[he,Cy _ _ h,cY,<-wB fs k h,if_neg (by simp[hb])]
theorem wh(fs:Fs)(n:ByteArray)(k:Nat)(h:¬k<fs.length)(he:bt fs n=cY n (fs.drop k) k):bt fs n=-1:=by
  rw[he,List.drop_of_length_le (by omega),cY]
theorem ku(v t:Nat)(fs:Fs)(more:List Value)(n:ByteArray)(w:World)(h:bm w v t fs more) :
    Calls Tryz.prog 50 #[.pointer (some ⟨v,0,none⟩),.string n] w fun e w'=>e=.returned (.int .i64 (bt fs n))/\w'=w:=by
  have hcnt:=h.count;have hlen:=h.2;go_enter Tryz.func50,Tryz.ntmps50;go_wp2
  go_loopg [5] fs.length (fun g i wr=>∃k:Nat,k<=fs.length/\g=fs.length-k/\i=.int .i64 k/\Hid (bt fs n=cY n (fs.drop k) k)/\wr=w)
  case atStart=>exact⟨0,by omega,by omega,rfl,rfl,rfl⟩
  case round =>
    obtain⟨k,hk,hg,rfl,hall,rfl⟩:=hrel
    by_cases hlt:k<fs.length
    · obtain⟨q0,q1⟩:=h.name k (by omega)
      cases hb:((aC fs k).toList==n.toList)
      · have HM:Hid (bt fs n=cY n (fs.drop (k+1)) (k+1)):=we fs n k hlt hall.out hb
        clear hall;go_wp2
        go_roundg (fs.length-(k+1))
        case measure=>omega
        case rel=>exact⟨k+1,by omega,rfl,by go_num,HM,rfl⟩
      · have HM:Hid (bt fs n=k):=zA fs n k hlt hall.out hb
        clear hall;go_wp2;go_ret;exact⟨am HM.out.symm,rfl⟩
    · have HM:Hid (bt fs n=-1):=wh fs n k hlt hall.out
      clear hall;go_wp2;go_ret;exact⟨am HM.out.symm,rfl⟩
theorem bm.free{w:World}{v t:Nat}{fs:Fs}{more:List Value}(h:bm w v t fs more)(i:Nat):w.frozen? ⟨v,i,none⟩=false:=ak h.1 i
theorem bm.kept{w w':World}{v t:Nat}{fs:Fs}{more:List Value}{S:List Nat}(h:bm w v t fs more)(hk:ab S w w')(hv:v∉S):bm w' v t fs more :=
 ⟨hk.get h.1 hv,h.2⟩
theorem bm.lt{w:World}{v t:Nat}{fs:Fs}{more:List Value}(h:bm w v t fs more):v<w.heap.size:=ae h.1
theorem GP(v t k:Nat)(fs:Fs)(more:List Value)(w:World)(h:bm w v t fs more)(hk:k<fs.length) :
  Calls Tryz.prog 154 #[.pointer (some ⟨v,0,none⟩),.int .i64 k] w fun e w'=>e=.returned (.agg #[.string (aC fs k),.string (aj fs k)])/\ab [] w w':=by
 have hcnt:=h.count;have hlen:=h.2;have hlt:=h.lt;obtain⟨q0,q1⟩:=h.name k (by omega);go_enter Tryz.func154,Tryz.ntmps154;go_wp2;exact bodyPost_ret (v:=.agg #[.string (aC fs k),.string (aj fs k)]) (by simp[results,Tryz.results154,go_sem]) rfl ⟨rfl,(ab.refl _ _).alloc _⟩
theorem I5(fs:Fs)(more:List Value)(n d:ByteArray)(h:fs.length<4) :
  (((mC fs++more).set (fs.length*2) (.string n)).set (fs.length*2+1) (.string d)).set 8 (.int .i64 ((fs.length:Int)+1))=mC (fs++[(n,d)])++more:=by
 match fs,h with
 | [],_=>rfl
 | [a],_=>rfl
 | [a,b],_=>rfl
 | [a,b,c],_=>rfl
theorem Jk(fs:Fs)(more:List Value)(n d:ByteArray)(k:Nat)(hk:k<fs.length)(h:fs.length<=4) :
  ((mC fs++more).set (k*2) (.string n)).set (k*2+1) (.string d)=mC (fs.set k (n,d))++more:=by
 match fs,h,k,hk with
 | [a],_,0,_=>rfl
 | [a,b],_,0,_=>rfl
 | [a,b],_,1,_=>rfl
 | [a,b,c],_,0,_=>rfl
 | [a,b,c],_,1,_=>rfl
 | [a,b,c],_,2,_=>rfl
 | [a,b,c,e],_,0,_=>rfl
 | [a,b,c,e],_,1,_=>rfl
 | [a,b,c,e],_,2,_=>rfl
 | [a,b,c,e],_,3,_=>rfl
theorem bm.added{w:World}{v t:Nat}{fs:Fs}{more:List Value}(h:bm w v t fs more)(n d:ByteArray)(hk:fs.length<4) :
  bm (((w.setCell ⟨v,fs.length*2,none⟩ (.string n)).setCell ⟨v,fs.length*2+1,none⟩ (.string d)).setCell ⟨v,8,none⟩ (.int .i64 ((fs.length:Int)+1))) v t (fs++[(n,d)]) more:=by
 have h4:=ah (ah (ah h.1 (fs.length*2) (.string n)) (fs.length*2+1) (.string d)) 8 (.int .i64 ((fs.length:Int)+1));refine⟨?_,by simp;omega⟩;rw[h4];simp only[List.setIfInBounds_toArray,I5 fs more n d hk]
theorem bm.turned{w:World}{v t:Nat}{fs:Fs}{more:List Value}(h:bm w v t fs more)(n d:ByteArray)(k:Nat)(hk:k<fs.length) :
  bm ((w.setCell ⟨v,k*2,none⟩ (.string n)).setCell ⟨v,k*2+1,none⟩ (.string d)) v t (fs.set k (n,d)) more:=by
 have h4:=ah (ah h.1 (k*2) (.string n)) (k*2+1) (.string d);refine⟨?_,by simpa using h.2⟩;rw[h4];simp only[List.setIfInBounds_toArray,Jk fs more n d k hk h.2]
theorem Cx(v t:Nat)(n d:ByteArray)(fs:Fs)(more:List Value)(w:World)(h:bm w v t fs more)(hk:fs.length<4) :
  Calls Tryz.prog 51 #[.pointer (some ⟨v,0,none⟩),.agg #[.string n,.string d]] w fun e w'=>e=.returned (.tuple #[])/\bm w' v t (fs++[(n,d)]) more/\ab [v] w w':=by
 have hcnt:=h.count;have hfr:=h.free;have hlt:=h.lt;obtain⟨q0,q1⟩:=h.name fs.length (by omega);go_enter Tryz.func51,Tryz.ntmps51;go_wp2
 go_region
 all_goals go_wp2
 all_goals go_end0
 exact⟨rfl,(h.added n d hk).kept ((ab.refl [] _).alloc _ |>.drew) (by simp),((((ab.refl _ _).setCell (Or.inl (by simp)) _).setCell (Or.inl (by simp)) _).setCell (Or.inl (by simp)) _).alloc _ |>.drew⟩
def gq(fs:Fs)(n d:ByteArray):Int×Fs :=
 if cn n d≠0 then(cn n d,fs)
 else if 0<=bt fs n then(0,fs.set (bt fs n).toNat (n,d))
 else if 4<=fs.length then(1,fs) else(0,fs++[(n,d)])
theorem yR(n:ByteArray)(fs:Fs)(i:Nat):cY n fs i=-1∨((i:Int)<=cY n fs i/\cY n fs i<i+fs.length):=by
 induction fs generalizing i with
 | nil=>exact Or.inl rfl
 | cons f r ih =>
  rw[cY];split
  ·exact Or.inr ⟨by omega,by simp;omega⟩
  ·rcases ih (i+1) with h | h
   ·exact Or.inl h
   ·exact Or.inr ⟨by omega,by simp;omega⟩
theorem nQ(n:ByteArray)(fs:Fs):bt fs n=-1∨∃k:Nat,k<fs.length/\bt fs n=k:=by
 rcases yR n fs 0 with h | h
 ·exact Or.inl h
 ·refine Or.inr ⟨(bt fs n).toNat,?_,?_⟩ <;> (unfold bt;omega)
theorem JD(v t:Nat)(n d:ByteArray)(fs:Fs)(more:List Value)(w:World)(h:bm w v t fs more)(hn:n.size<=1073741824)(hd:d.size<=4294967296) :
  Calls Tryz.prog 32 #[.pointer (some ⟨v,0,none⟩),.string n,.string d] w fun e w'=>e=.returned (.int .i64 (gq fs n d).1)/\bm w' v t (gq fs n d).2 more/\ab [v] w w':=by
 have hcnt:=h.count;have hlt:=h.lt;have hlen:=h.2
 by_cases hc:cn n d=0
 ·rcases nQ n fs with hf | ⟨k,hk,hf⟩
  ·by_cases hl:4<=fs.length
   ·have HP:Hid (gq fs n d=(1,fs)):=by show gq fs n d=_;simp[gq,hc,hf,hl]
    have HC:Hid (cn n d=0):=hc;have HFF:Hid (bt fs n=-1):=hf;clear hc hf;go_enter Tryz.func32,Tryz.ntmps32;go_wp2_with fail;refine(l9 n d _ hn hd).mono ?_;rintro e w1 ⟨rfl,rfl⟩;rw[HC.out];go_wp2_with fail;refine(ku v t fs more n _ (by exact h.kept ((ab.refl [] _).alloc _) (by simp))).mono ?_;rintro e w1 ⟨rfl,rfl⟩;rw[HFF.out];go_wp2;go_ret;exact⟨am (by rw[HP.out]),by rw[HP.out];exact h.kept ((ab.refl [] _).alloc _) (by simp),(ab.refl _ _).alloc _⟩
   ·have HP:Hid (gq fs n d=(0,fs++[(n,d)])):=by show gq fs n d=_;simp[gq,hc,hf,hl]
    have HC:Hid (cn n d=0):=hc;have HFF:Hid (bt fs n=-1):=hf;clear hc hf;go_enter Tryz.func32,Tryz.ntmps32;go_wp2_with fail;refine(l9 n d _ hn hd).mono ?_;rintro e w1 ⟨rfl,rfl⟩;rw[HC.out];go_wp2_with fail;refine(ku v t fs more n _ (by exact h.kept ((ab.refl [] _).alloc _) (by simp))).mono ?_;rintro e w1 ⟨rfl,rfl⟩;rw[HFF.out];go_wp2_with fail;refine(Cx v t n d fs more _ (by exact h.kept ((ab.refl [] _).alloc _) (by simp)) (by omega)).mono ?_;rintro e w2 ⟨rfl,h2,hk2⟩;go_wp2;go_ret;exact⟨am (by rw[HP.out]),by rw[HP.out];exact h2,((ab.refl _ _).alloc _).trans hk2⟩
  ·have HP:Hid (gq fs n d=(0,fs.set k (n,d))):=by show gq fs n d=_;simp[gq,hc,hf]
   have HC:Hid (cn n d=0):=hc;have HFF:Hid (bt fs n=k):=hf;obtain⟨q0,q1⟩:=h.name k (by omega);have hfr:=h.free;clear hc hf;go_enter Tryz.func32,Tryz.ntmps32;go_wp2_with fail;refine(l9 n d _ hn hd).mono ?_;rintro e w1 ⟨rfl,rfl⟩;rw[HC.out];go_wp2_with fail;refine(ku v t fs more n _ (by exact h.kept ((ab.refl [] _).alloc _) (by simp))).mono ?_;rintro e w1 ⟨rfl,rfl⟩;rw[HFF.out];go_wp2_with fail
   go_region
   all_goals go_wp2
   all_goals go_ret
   exact⟨am (by rw[HP.out]),by rw[HP.out];exact(h.turned n d k hk).kept ((ab.refl [] _).alloc _ |>.drew) (by simp),(((ab.refl _ _).setCell (Or.inl (by simp)) _).setCell (Or.inl (by simp)) _).alloc _ |>.drew⟩
 ·have HP:Hid (gq fs n d=(cn n d,fs)):=by show gq fs n d=_;simp[gq,hc]
  have hc':(cn n d != 0)=true:=by simp[hc]
  clear hc;go_enter Tryz.func32,Tryz.ntmps32;go_wp2_with fail;refine(l9 n d _ hn hd).mono ?_;rintro e w1 ⟨rfl,rfl⟩;go_wp2;go_ret;exact⟨am (by rw[HP.out]),by rw[HP.out];exact h,ab.refl _ _⟩
end Go.Proofs.YtpddjjabfbfifaaGreat
