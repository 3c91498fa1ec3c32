import Derived.Test.YtpddjjabfbfifaaGreatG03
namespace Go.Proofs.YtpddjjabfbfifaaGreat
open Go.RowKit
set_option maxHeartbeats 40000000
def aG(i:pG):Bool:=i.rule==0 && !i.fin
theorem cr(t n:ByteArray)(r l c:Int)(f:Bool)(w:World) :
    Calls Tryz.prog 156 #[.agg #[.string t,.int .i64 r,.bool f,.string n,.int .i64 l,.int .i64 c]] w fun e w'=>e=.returned (.bool (r==0 && !f))/\ab [] w w':=by
  cases hr:(r==0)
  · go_enter Tryz.func156,Tryz.ntmps156
    go_wp2;go_ret;exact⟨aB (by simp),(ab.refl _ _).alloc _⟩
  · go_enter Tryz.func156,Tryz.ntmps156
    go_wp2;go_ret;exact⟨aB (by simp),(ab.refl _ _).alloc _⟩
def dw(s:ByteArray):Bool:=(List.range s.size).any (fun i=>aF s i==36)
def jl(s:ByteArray):Bool:=(List.range s.size).any (fun i=>decide (1<=i)&&(aF s (i-1)==36)&&((aF s i==40)||(aF s i==41)))
theorem lD{n:Nat}{p:Nat->Bool}(i:Nat)(h:i<n)(hp:p i=true):(List.range n).any p=true:=by
  rw[List.any_eq_true];exact⟨i,by simpa using h,hp⟩
theorem sV{n:Nat}{p:Nat->Bool}(h:∀i,i<n->p i=false):(List.range n).any p=false:=by
  rw[List.any_eq_false];intro i hi;simp[h i (by simpa using hi)]
theorem dD(s:ByteArray)(w:World)(hs:s.size<=1073741824) :
    Calls Tryz.prog 231 #[.string s] w fun e w'=>e=.returned (.bool (dw s))/\w'=w:=by
  go_enter Tryz.func231,Tryz.ntmps231;go_wp2
  go_loopg [3] s.size (fun g i wr=>∃k:Nat,k<=s.size/\g=s.size-k/\i=.int .i64 k/\Hid (∀i,i<k->(aF s i==36)=false)/\wr=w)
  case atStart=>exact⟨0,by omega,by omega,rfl,fun i h=>by omega,rfl⟩
  case round =>
    obtain⟨k,hk,hg,rfl,hall,rfl⟩:=hrel
    by_cases hlt:k<s.size
    · cases hb:((s[k].toNat:Int)==36)
      · go_wp2
        go_roundg (s.size-(k+1))
        case measure=>omega
        case rel =>
          refine⟨k+1,by omega,rfl,by go_num,?_,rfl⟩;intro i hi
          by_cases e:i=k
          · subst e;rw[bI s i hlt];exact hb
          · exact hall.out i (by omega)
      · have HY:Hid (dw s=true):=lD k hlt (by rw[bI s k hlt];exact hb)
        go_wp2;go_ret;exact⟨aB HY.out.symm,rfl⟩
    · have HY:Hid (dw s=false):=sV (fun i hi=>hall.out i (by omega))
      go_wp2;go_ret;exact⟨aB HY.out.symm,rfl⟩
theorem rF(s:ByteArray)(w:World)(hs:s.size<=1073741824) :
    Calls Tryz.prog 230 #[.string s] w fun e w'=>e=.returned (.bool (jl s))/\w'=w:=by
  go_enter Tryz.func230,Tryz.ntmps230;go_wp2
  go_loopg [3] (s.size-1) (fun g i wr=>∃k:Nat,1<=k/\(k<=s.size∨k=1)/\g=s.size-k/\i=.int .i64 k/\Hid (∀i,i<k->1<=i->((aF s (i-1)==36)&&((aF s i==40)||(aF s i==41)))=false)/\wr=w)
  case atStart=>exact⟨1,by omega,by omega,rfl,rfl,fun i h h'=>by omega,rfl⟩
  case round =>
    obtain⟨k,hk1,hk,hg,rfl,hall,rfl⟩:=hrel
    by_cases hlt:k<s.size
    · have hlt1:k-1<s.size:=by omega
      have hq:∀b:Bool,(((s[k-1].toNat:Int)==36)&&(((s[k].toNat:Int)==40)||((s[k].toNat:Int)==41)))=b->((aF s (k-1)==36)&&((aF s k==40)||(aF s k==41)))=b :=
        fun b h=>by rw[bI s k hlt,bI s (k-1) hlt1];exact h
      have HQ:Hid (∀b:Bool,(((s[k-1].toNat:Int)==36)&&(((s[k].toNat:Int)==40)||((s[k].toNat:Int)==41)))=b->((aF s (k-1)==36)&&((aF s k==40)||(aF s k==41)))=b):=hq;clear hq;go_wp2
      all_goals first
        | (go_ret
           refine⟨aB ?_,rfl⟩;refine(lD (p:=fun i=>decide (1<=i)&&(aF s (i-1)==36)&&((aF s i==40)||(aF s i==41))) k hlt ?_).symm;have:=HQ.out true (by simp_all);simp only[Bool.and_assoc,this];simp[hk1])
        | (go_roundg (s.size-(k+1))
           case measure=>omega
           case rel =>
             refine⟨k+1,by omega,by omega,rfl,by go_num,?_,rfl⟩;intro i hi h1
             by_cases e:i=k
             · subst e;exact HQ.out false (by simp_all)
             · exact hall.out i (by omega) h1)
    · have HY:Hid (jl s=false):=sV (fun i hi=>by
        by_cases h1:1<=i
        · have:=hall.out i (by omega) h1;simp only[Bool.and_assoc,this];simp
        · simp[h1])
      go_wp2;go_ret;exact⟨aB HY.out.symm,rfl⟩
theorem fw(d:ByteArray)(k:Nat)(h:k<=d.size):k<=(bi d k).2/\(bi d k).2<=d.size/\(aG (bi d k).1=true->k<(bi d k).2):=by
 have a:=xF d k h;have b:=pE d (skip d k) a.2;unfold bi;simp only
 split
 ·exact⟨by omega,b.2,by simp[aG]⟩
 ·split
  ·exact⟨by omega,b.2,by simp[aG]⟩
  ·exact⟨by simp only;omega,b.2,fun _=>by simp only;omega⟩
def bP(d:ByteArray):Nat->Nat->pG×Nat
 | 0,k=>(⟨⟨#[]⟩,3,false,k⟩,k)
 | f+1,k =>
  if aG (bi d k).1=true/\¬(bi d k).1.text.toList=[36,41] then
   if jl (bi d k).1.text=true then(⟨⟨#[]⟩,2,false,(bi d k).1.pos⟩,(bi d k).2) else bP d f (bi d k).2
  else if(bi d k).1.fin=true then(⟨⟨#[]⟩,3,false,(bi d k).1.pos⟩,(bi d k).2) else bi d k
def aQ(d:ByteArray)(k:Nat):pG×Nat:=bP d (d.size-k+1) k
theorem tp(d:ByteArray)(f k:Nat)(hk:k<=d.size)(hf:d.size-k+1<=f):bP d f k=aQ d k:=by
 unfold aQ
 suffices h:∀f g k,k<=d.size->d.size-k+1<=f->d.size-k+1<=g->bP d f k=bP d g k from h _ _ _ hk hf (Nat.le_refl _)
 clear hf hk f k;intro f
 induction f with
 | zero=>intro g k _ h;omega
 | succ f ih =>
  intro g k hk hf hg
  cases g with
  | zero=>omega
  | succ g =>
   rw[bP,bP]
   split
   ·next h =>
    have hl:=fw d k hk;have hl2:=hl.2.2 h.1
    split
    ·rfl
    ·exact ih g (bi d k).2 hl.2.1 (by omega) (by omega)
   ·rfl
theorem tq(d:ByteArray)(k:Nat)(hk:k<=d.size)(h1:aG (bi d k).1=true)(h2:((bi d k).1.text.toList == [36,41])=false)(h3:jl (bi d k).1.text=false):aQ d k=aQ d (bi d k).2:=by
 have hl:=fw d k hk;have hl2:=hl.2.2 h1
 conv=>lhs;unfold aQ
 rw[bP,if_pos ⟨h1,by simpa using h2⟩,if_neg (by simp[h3]),tp d _ _ hl.2.1 (by omega)]
theorem pP(d:ByteArray)(k:Nat)(h1:aG (bi d k).1=true)(h2:((bi d k).1.text.toList == [36,41])=false)(h3:jl (bi d k).1.text=true):aQ d k=(⟨⟨#[]⟩,2,false,(bi d k).1.pos⟩,(bi d k).2):=by
 unfold aQ;rw[bP,if_pos ⟨h1,by simpa using h2⟩,if_pos h3]
theorem pQ(d:ByteArray)(k:Nat)(h1:aG (bi d k).1=false)(h2:(bi d k).1.fin=true):aQ d k=(⟨⟨#[]⟩,3,false,(bi d k).1.pos⟩,(bi d k).2):=by
 unfold aQ;rw[bP,if_neg (by simp[h1]),if_pos h2]
theorem rJ(d:ByteArray)(k:Nat)(h1:aG (bi d k).1=false)(h2:(bi d k).1.fin=false):aQ d k=bi d k:=by
 unfold aQ;rw[bP,if_neg (by simp[h1]),if_neg (by simp[h2])]
theorem oI(d:ByteArray)(k:Nat)(h1:aG (bi d k).1=true)(h2:((bi d k).1.text.toList == [36,41])=true):aQ d k=bi d k:=by
 unfold aQ;rw[bP,if_neg (by intro h;exact h.2 (by simpa using h2))];rw[if_neg (by intro h;simp[aG,h]at h1)]
theorem hQ(d:ByteArray)(k:Nat)(hk:k<=d.size):k<=(aQ d k).2/\(aQ d k).2<=d.size:=by
 unfold aQ
 suffices h:∀f k,k<=d.size->k<=(bP d f k).2/\(bP d f k).2<=d.size from h _ _ hk
 clear hk k;intro f
 induction f with
 | zero=>intro k hk;simp[bP,hk]
 | succ f ih =>
  intro k hk;have hl:=fw d k hk;rw[bP]
  split
  ·split
   ·exact⟨hl.1,hl.2.1⟩
   ·have:=ih (bi d k).2 hl.2.1;omega
  ·split
   ·exact⟨hl.1,hl.2.1⟩
   ·exact⟨hl.1,hl.2.1⟩
def dg(d:ByteArray):Nat->Nat->pG×Nat
 | 0,k=>(⟨⟨#[]⟩,0,true,k⟩,k)
 | f+1,k =>
  if aG (bi d k).1=true/\(bi d k).1.text.toList=[36,40] then
   if aG (aQ d (bi d k).2).1=true then dg d f (aQ d (bi d k).2).2 else aQ d (bi d k).2
  else bi d k
def av(d:ByteArray)(k:Nat):pG×Nat:=dg d (d.size-k+1) k
theorem zg(d:ByteArray)(f k:Nat)(hk:k<=d.size)(hf:d.size-k+1<=f):dg d f k=av d k:=by
 unfold av
 suffices h:∀f g k,k<=d.size->d.size-k+1<=f->d.size-k+1<=g->dg d f k=dg d g k from h _ _ _ hk hf (Nat.le_refl _)
 clear hf hk f k;intro f
 induction f with
 | zero=>intro g k _ h;omega
 | succ f ih =>
  intro g k hk hf hg
  cases g with
  | zero=>omega
  | succ g =>
   rw[dg,dg]
   split
   ·next h =>
    have hl:=fw d k hk;have hl2:=hl.2.2 h.1;have hc:=hQ d (bi d k).2 hl.2.1
    split
    ·exact ih g _ hc.2 (by omega) (by omega)
    ·rfl
   ·rfl
theorem CP(d:ByteArray)(k:Nat)(hk:k<=d.size)(h1:aG (bi d k).1=true)(h2:((bi d k).1.text.toList == [36,40])=true)(h3:aG (aQ d (bi d k).2).1=true) :
  av d k=av d (aQ d (bi d k).2).2:=by
 have hl:=fw d k hk;have hl2:=hl.2.2 h1;have hc:=hQ d (bi d k).2 hl.2.1
 conv=>lhs;unfold av
 rw[dg,if_pos ⟨h1,by simpa using h2⟩,if_pos h3,zg d _ _ hc.2 (by omega)]
theorem rR(d:ByteArray)(k:Nat)(h1:aG (bi d k).1=true)(h2:((bi d k).1.text.toList == [36,40])=true)(h3:aG (aQ d (bi d k).2).1=false) :
  av d k=aQ d (bi d k).2:=by
 unfold av;rw[dg,if_pos ⟨h1,by simpa using h2⟩,if_neg (by simp[h3])]
theorem po(d:ByteArray)(k:Nat)(h:aG (bi d k).1=false∨((bi d k).1.text.toList == [36,40])=false):av d k=bi d k:=by
 unfold av;rw[dg,if_neg (by rintro ⟨a,b⟩;rcases h with h | h;simp[h]at a;simp[b]at h)]
theorem eN(d:ByteArray)(k:Nat)(hk:k<=d.size):k<=(av d k).2/\(av d k).2<=d.size/\(aG (av d k).1=true->k<(av d k).2):=by
 unfold av
 suffices h:∀f k,k<=d.size->k<=(dg d f k).2/\(dg d f k).2<=d.size/\(aG (dg d f k).1=true->k<(dg d f k).2) from h _ _ hk
 clear hk k;intro f
 induction f with
 | zero=>intro k hk;simp[dg,hk,aG]
 | succ f ih =>
  intro k hk;have hl:=fw d k hk;have hc:=hQ d (bi d k).2 hl.2.1;rw[dg]
  split
  ·next h =>
   have hl2:=hl.2.2 h.1
   split
   ·have:=ih (aQ d (bi d k).2).2 hc.2;omega
   ·omega
  ·exact hl
def iq(w:World)(r:Nat)(n d:ByteArray)(i:pG):Prop :=
 w.heap[r]?=some (.cells #[.string i.text,.int .i64 i.rule,.bool i.fin,.string n,.int .i64 (aL d i.pos),.int .i64 (aW d i.pos)] 255 (0,0))
theorem iq.cells{w:World}{r:Nat}{n d t:ByteArray}{u:Int}{f:Bool}{p:Nat}(h:iq w r n d ⟨t,u,f,p⟩) :
  w.cell? ⟨r,0,none⟩=some (.string t)/\w.cell? ⟨r,1,none⟩=some (.int .i64 u)/\w.cell? ⟨r,2,none⟩=some (.bool f) /\
  w.cell? ⟨r,3,none⟩=some (.string n)/\w.cell? ⟨r,4,none⟩=some (.int .i64 (aL d p))/\w.cell? ⟨r,5,none⟩=some (.int .i64 (aW d p)):=by
 refine⟨?_,?_,?_,?_,?_,?_⟩ <;> (rw[aa h];rfl)
theorem iq.kept{w w':World}{r:Nat}{n d:ByteArray}{i:pG}{S:List Nat}(h:iq w r n d i)(hk:ab S w w')(hb:r∉S):iq w' r n d i:=hk.get h hb
theorem nH{w:World}{r:Nat}{n d:ByteArray}{i:pG}(h:iq w r n d i)(j:pG) :
  iq ((((((w.setCell ⟨r,0,none⟩ (.string j.text)).setCell ⟨r,1,none⟩ (.int .i64 j.rule)).setCell ⟨r,2,none⟩ (.bool j.fin)).setCell ⟨r,3,none⟩ (.string n)).setCell ⟨r,4,none⟩ (.int .i64 (aL d j.pos))).setCell ⟨r,5,none⟩ (.int .i64 (aW d j.pos))) r n d j:=by
 have:=ah (ah (ah (ah (ah (ah h 0 (.string j.text)) 1 (.int .i64 j.rule)) 2 (.bool j.fin)) 3 (.string n)) 4 (.int .i64 (aL d j.pos))) 5 (.int .i64 (aW d j.pos));unfold iq;rw[this];simp
theorem rj{w:World}{b r:Nat}{o:Obj}(h:w.heap[b]?=some o)(hne:b≠r)(a0 a1 a2 a3 a4 a5:Value) :
  ((((((w.setCell ⟨r,0,none⟩ a0).setCell ⟨r,1,none⟩ a1).setCell ⟨r,2,none⟩ a2).setCell ⟨r,3,none⟩ a3).setCell ⟨r,4,none⟩ a4).setCell ⟨r,5,none⟩ a5).heap[b]?=some o:=by
 rw[Below.heap_setCell _ _ _ _ hne,Below.heap_setCell _ _ _ _ hne,Below.heap_setCell _ _ _ _ hne,Below.heap_setCell _ _ _ _ hne,Below.heap_setCell _ _ _ _ hne,Below.heap_setCell _ _ _ _ hne];exact h
theorem oq(d:ByteArray)(k:Nat)(hd:d.size<=1024):(bi d k).1.text.size<=1024:=by
 unfold bi;simp only
 split
 ·simp[ByteArray.size]
 ·split
  ·simp[ByteArray.size]
  ·simp;omega
set_option maxRecDepth 100000 in
theorem rI(b k:Nat)(n d:ByteArray)(w:World)(hd:d.size<=1024)(hk:k<=d.size)(h:bN w b n d k) :
  Calls Tryz.prog 204 #[.pointer (some ⟨b,0,none⟩)] w fun e w'=>e=.returned (ew n d (aQ d k).1)/\bN w' b n d (aQ d k).2/\ab [b] w w':=by
 have hbw:=ae h;go_enter Tryz.func204,Tryz.ntmps204;go_wp2_with fail;refine(sK b k n d _ hd hk (by exact h.kept ((ab.refl [] _).alloc _) (by simp))).mono ?_;rintro e w1 ⟨rfl,h1,hk1⟩;have hr1:w1.heap[w.heap.size]?=some (.cells kC 255 (0,0)):=hk1.get (heap_alloc_new _ _) (by simp;omega);have hkw:ab [b] w w1:=((ab.refl _ _).alloc _).trans hk1;have hb1:=ae h1;have hR1:=ae hr1;simp only[ew];go_wp2
 go_loopg [] (d.size-k) (fun g wr=>∃j,j<=d.size/\g=d.size-j/\Hid (aQ d k=aQ d j)/\bN wr b n d (bi d j).2/\iq wr w1.heap.size n d (bi d j).1/\wr.heap[w.heap.size]?=some (.cells kC 255 (0,0))/\ab [b] w wr)
 case atStart=>exact⟨k,hk,rfl,rfl,h1.kept ((ab.refl [] _).alloc _) (by simp),heap_alloc_new _ _,((ab.refl [] _).alloc _).get hr1 (by simp),hkw.alloc _⟩
 case round =>
  obtain⟨j,hj,hg,hs,h2,hi,hr,hkp⟩:=hrel;have hrl:=fw d j hj;have htx:=oq d j hd;have L1:Hid (_->_->_->aQ d j=_):=tq d j hj;have L2:Hid (_->_->_->aQ d j=_):=pP d j;have L3:Hid (_->_->aQ d j=_):=pQ d j;have L4:Hid (_->_->aQ d j=_):=rJ d j;have L5:Hid (_->_->aQ d j=_):=oI d j;generalize hrr:bi d j=r at *;obtain⟨⟨t,u,f,p⟩,z⟩:=r;have HR:Hid (bi d j=(⟨t,u,f,p⟩,z)):=hrr;clear hrr;simp only at h2 hi hrl htx;obtain⟨q0,q1,q2,q3,q4,q5⟩:=hi.cells;have hRw:=ae hr;have hbr:=ae h2;have hIw:=ae hi
  cases hw:(u==0 && !f)
  ·cases hf:f
   ·have HF:Hid (aQ d j=(⟨t,u,false,p⟩,z)):=by have:=L4.out (by simpa [aG] using hw) hf;rw[hf]at this;exact this
    subst hf;have hw':(u==0)=false:=by simpa using hw
    clear L1 L2 L3 L4 L5;go_wp2_with fail;refine(cr t n u (aL d p) (aW d p) _ _).mono ?_;rintro e w2 ⟨rfl,hk2⟩;have hi2:=hi.kept hk2 (by simp);have h22:=h2.kept hk2 (by simp);have hr2:=hk2.get hr (by simp);have hkp2:=hkp.trans (hk2.mono (by simp));clear q0 q1 q2 q3 q4 q5 hi h2 hr hkp hk2;obtain⟨q0,q1,q2,q3,q4,q5⟩:=hi2.cells;obtain⟨z0,z1,z2,z3,z4,z5⟩:=fN hr2;have y:=ak hr2;go_wp2
    exact bodyPost_ret (v:=ew n d ⟨t,u,false,p⟩) (by simp[results,Tryz.results204,go_sem,ew,z0,z1,z2,z3,z4,z5]) rfl
     (by rw[hs.out,HF.out];exact⟨rfl,fG h22 (by omega) _ _ _ _ _ _,gd hkp2 (Nat.le_refl _) _ _ _ _ _ _⟩)
   ·have HF:Hid (aQ d j=(⟨⟨#[]⟩,3,false,p⟩,z)):=L3.out (by simpa [aG] using hw) hf
    subst hf;clear L1 L2 L3 L4 L5;go_wp2_with fail;refine(cr t n u (aL d p) (aW d p) _ _).mono ?_;rintro e w2 ⟨rfl,hk2⟩;have hi2:=hi.kept hk2 (by simp);have h22:=h2.kept hk2 (by simp);have hr2:=hk2.get hr (by simp);have hkp2:=hkp.trans (hk2.mono (by simp));clear q0 q1 q2 q3 q4 q5 hi h2 hr hkp hk2;obtain⟨q0,q1,q2,q3,q4,q5⟩:=hi2.cells;obtain⟨z0,z1,z2,z3,z4,z5⟩:=fN hr2;have y:=ak hr2;go_wp2
    exact bodyPost_ret (v:=ew n d ⟨⟨#[]⟩,3,false,p⟩) (by simp[results,Tryz.results204,go_sem,ew,z0,z1,z2,z3,z4,z5]) rfl
     (by rw[hs.out,HF.out];exact⟨rfl,fG h22 (by omega) _ _ _ _ _ _,gd hkp2 (Nat.le_refl _) _ _ _ _ _ _⟩)
  ·cases hx:(t.toList == [36,41])
   ·cases hy:jl t
    ·have HF:Hid (aQ d j=aQ d z):=L1.out hw hx hy
     clear L1 L2 L3 L4 L5;go_wp2_with fail;refine(cr t n u (aL d p) (aW d p) _ _).mono ?_;rintro e w2 ⟨rfl,hk2⟩;have hi2:=hi.kept hk2 (by simp);have h22:=h2.kept hk2 (by simp);have hr2:=hk2.get hr (by simp);have hkp2:=hkp.trans (hk2.mono (by simp));clear q0 q1 q2 q3 q4 q5 hi h2 hr hkp hk2;obtain⟨q0,q1,q2,q3,q4,q5⟩:=hi2.cells;go_wp2_with fail;refine(rF t _ (by omega)).mono ?_;rintro e w3 ⟨rfl,rfl⟩;go_wp2_with fail;refine(sK b z n d _ hd hrl.2.1 h22).mono ?_;rintro e w4 ⟨rfl,h4,hk4⟩;have hi4:=hi2.kept hk4 (by simp;omega);have hr4:=hk4.get hr2 (by simp;omega);have hkp4:=hkp2.trans hk4;have yy:=ak hi4;have hI4:=ae hi4;clear q0 q1 q2 q3 q4 q5;obtain⟨q0,q1,q2,q3,q4,q5⟩:=hi4.cells;simp only[ew];go_wp2
     go_roundg (d.size-z)
     case measure=>have:=hrl.2.2 hw;omega
     case rel=>exact⟨z,hrl.2.1,rfl,hs.out.trans HF.out,fG h4 (by omega) _ _ _ _ _ _,nH hi4 _,rj hr4 (by omega) _ _ _ _ _ _,gd hkp4 (by omega) _ _ _ _ _ _⟩
    ·have HF:Hid (aQ d j=(⟨⟨#[]⟩,2,false,p⟩,z)):=L2.out hw hx hy
     clear L1 L2 L3 L4 L5;go_wp2_with fail;refine(cr t n u (aL d p) (aW d p) _ _).mono ?_;rintro e w2 ⟨rfl,hk2⟩;have hi2:=hi.kept hk2 (by simp);have h22:=h2.kept hk2 (by simp);have hr2:=hk2.get hr (by simp);have hkp2:=hkp.trans (hk2.mono (by simp));clear q0 q1 q2 q3 q4 q5 hi h2 hr hkp hk2;obtain⟨q0,q1,q2,q3,q4,q5⟩:=hi2.cells;go_wp2_with fail;refine(rF t _ (by omega)).mono ?_;rintro e w3 ⟨rfl,rfl⟩;obtain⟨z0,z1,z2,z3,z4,z5⟩:=fN hr2;have y:=ak hr2;go_wp2
     exact bodyPost_ret (v:=ew n d ⟨⟨#[]⟩,2,false,p⟩) (by simp[results,Tryz.results204,go_sem,ew,z0,z1,z2,z3,z4,z5]) rfl
      (by rw[hs.out,HF.out];exact⟨rfl,fG h22 (by omega) _ _ _ _ _ _,gd hkp2 (Nat.le_refl _) _ _ _ _ _ _⟩)
   ·have HF:Hid (aQ d j=(⟨t,u,f,p⟩,z)):=L5.out hw hx
    clear L1 L2 L3 L4 L5;have hf:f=false:=by cases f;rfl;simp at hw
    subst hf;have hw':(u==0)=true:=by simpa using hw
    go_wp2_with fail;refine(cr t n u (aL d p) (aW d p) _ _).mono ?_;rintro e w2 ⟨rfl,hk2⟩;have hi2:=hi.kept hk2 (by simp);have h22:=h2.kept hk2 (by simp);have hr2:=hk2.get hr (by simp);have hkp2:=hkp.trans (hk2.mono (by simp));clear q0 q1 q2 q3 q4 q5 hi h2 hr hkp hk2;obtain⟨q0,q1,q2,q3,q4,q5⟩:=hi2.cells;obtain⟨z0,z1,z2,z3,z4,z5⟩:=fN hr2;have y:=ak hr2;go_wp2
    exact bodyPost_ret (v:=ew n d ⟨t,u,false,p⟩) (by simp[results,Tryz.results204,go_sem,ew,z0,z1,z2,z3,z4,z5]) rfl
     (by rw[hs.out,HF.out];exact⟨rfl,fG h22 (by omega) _ _ _ _ _ _,gd hkp2 (Nat.le_refl _) _ _ _ _ _ _⟩)
set_option maxRecDepth 100000 in
theorem qc(b k:Nat)(n d:ByteArray)(w:World)(hd:d.size<=1024)(hk:k<=d.size)(h:bN w b n d k) :
  Calls Tryz.prog 155 #[.pointer (some ⟨b,0,none⟩)] w fun e w'=>e=.returned (ew n d (av d k).1)/\bN w' b n d (av d k).2/\ab [b] w w':=by
 have hbw:=ae h;go_enter Tryz.func155,Tryz.ntmps155;go_wp2_with fail;refine(sK b k n d _ hd hk (by exact h.kept ((ab.refl [] _).alloc _) (by simp))).mono ?_;rintro e w1 ⟨rfl,h1,hk1⟩;have hr1:w1.heap[w.heap.size]?=some (.cells kC 255 (0,0)):=hk1.get (heap_alloc_new _ _) (by simp;omega);have hkw:ab [b] w w1:=((ab.refl _ _).alloc _).trans hk1;have hb1:=ae h1;have hR1:=ae hr1;simp only[ew];go_wp2
 go_loopg [4] (d.size-k) (fun g _ wr=>∃j,j<=d.size/\g=d.size-j/\Hid (av d k=av d j)/\bN wr b n d (bi d j).2/\iq wr w1.heap.size n d (bi d j).1/\wr.heap[w.heap.size]?=some (.cells kC 255 (0,0))/\ab [b] w wr)
 case atStart=>exact⟨k,hk,rfl,rfl,h1.kept ((ab.refl [] _).alloc _) (by simp),heap_alloc_new _ _,((ab.refl [] _).alloc _).get hr1 (by simp),hkw.alloc _⟩
 case round =>
  obtain⟨j,hj,hg,hs,h2,hi,hr,hkp⟩:=hrel;have hrl:=fw d j hj;have htx:=oq d j hd;have L1:Hid (_->_->_->av d j=_):=CP d j hj;have L2:Hid (_->_->_->av d j=_):=rR d j;have L3:Hid (_->av d j=_):=po d j;generalize hrr:bi d j=r at *;obtain⟨⟨t,u,f,p⟩,z⟩:=r;have HR:Hid (bi d j=(⟨t,u,f,p⟩,z)):=hrr;clear hrr;simp only at h2 hi hrl htx;obtain⟨q0,q1,q2,q3,q4,q5⟩:=hi.cells;have hRw:=ae hr;have hbr:=ae h2;have hIw:=ae hi
  cases hw:(u==0 && !f)
  ·have HF:Hid (av d j=(⟨t,u,f,p⟩,z)):=L3.out (Or.inl hw)
   clear L1 L2 L3;go_wp2_with fail;refine(cr t n u (aL d p) (aW d p) _ _).mono ?_;rintro e w2 ⟨rfl,hk2⟩;have hi2:=hi.kept hk2 (by simp);have h22:=h2.kept hk2 (by simp);have hr2:=hk2.get hr (by simp);have hkp2:=hkp.trans (hk2.mono (by simp));clear q0 q1 q2 q3 q4 q5 hi h2 hr hkp hk2;obtain⟨q0,q1,q2,q3,q4,q5⟩:=hi2.cells;obtain⟨z0,z1,z2,z3,z4,z5⟩:=fN hr2;have y:=ak hr2;go_wp2
   exact bodyPost_ret (v:=ew n d ⟨t,u,f,p⟩) (by simp[results,Tryz.results155,go_sem,ew,z0,z1,z2,z3,z4,z5]) rfl
    (by rw[hs.out,HF.out];exact⟨rfl,fG h22 (by omega) _ _ _ _ _ _,gd hkp2 (Nat.le_refl _) _ _ _ _ _ _⟩)
  ·cases hx:(t.toList == [36,40])
   ·have HF:Hid (av d j=(⟨t,u,f,p⟩,z)):=L3.out (Or.inr hx)
    clear L1 L2 L3;go_wp2_with fail;refine(cr t n u (aL d p) (aW d p) _ _).mono ?_;rintro e w2 ⟨rfl,hk2⟩;have hi2:=hi.kept hk2 (by simp);have h22:=h2.kept hk2 (by simp);have hr2:=hk2.get hr (by simp);have hkp2:=hkp.trans (hk2.mono (by simp));clear q0 q1 q2 q3 q4 q5 hi h2 hr hkp hk2;obtain⟨q0,q1,q2,q3,q4,q5⟩:=hi2.cells;obtain⟨z0,z1,z2,z3,z4,z5⟩:=fN hr2;have y:=ak hr2;go_wp2
    exact bodyPost_ret (v:=ew n d ⟨t,u,f,p⟩) (by simp[results,Tryz.results155,go_sem,ew,z0,z1,z2,z3,z4,z5]) rfl
     (by rw[hs.out,HF.out];exact⟨rfl,fG h22 (by omega) _ _ _ _ _ _,gd hkp2 (Nat.le_refl _) _ _ _ _ _ _⟩)
   ·have hcl:=hQ d z hrl.2.1
    have L4:Hid (_->av d j=av d _):=fun h=>L1.out hw hx h
    have L5:Hid (_->av d j=_):=fun h=>L2.out hw hx h
    clear L1 L2 L3;generalize hcc:aQ d z=c at *;obtain⟨⟨ct,cu,cf,cp⟩,cz⟩:=c;have HC:Hid (aQ d z=(⟨ct,cu,cf,cp⟩,cz)):=hcc;clear hcc;simp only at hcl
    cases hcw:(cu==0 && !cf)
    ·have HF:Hid (av d j=(⟨ct,cu,cf,cp⟩,cz)):=L5.out hcw
     clear L4 L5;go_wp2_with fail;refine(cr t n u (aL d p) (aW d p) _ _).mono ?_;rintro e w2 ⟨rfl,hk2⟩;have hi2:=hi.kept hk2 (by simp);have h22:=h2.kept hk2 (by simp);have hr2:=hk2.get hr (by simp);have hkp2:=hkp.trans (hk2.mono (by simp));clear q0 q1 q2 q3 q4 q5 hi h2 hr hkp hk2;obtain⟨q0,q1,q2,q3,q4,q5⟩:=hi2.cells;go_wp2_with fail;refine(rI b z n d _ hd hrl.2.1 h22).mono ?_;rintro e w3 ⟨rfl,h3,hk3⟩;have hi3:=hi2.kept hk3 (by simp;omega);have hr3:=hk3.get hr2 (by simp;omega);have hkp3:=hkp2.trans hk3;have hb3:=ae h3;have hI3:=ae hi3;have hR3:=ae hr3;simp only[ew];rw[HC.out];simp only;go_wp2_with fail;refine(cr ct n cu (aL d cp) (aW d cp) _ _).mono ?_;rintro e w4 ⟨rfl,hk4⟩;have hl4:iq w4 w3.heap.size n d ⟨ct,cu,cf,cp⟩:=hk4.get (heap_alloc_new _ _) (by simp);have hi4:=(hi3.kept ((ab.refl [] _).alloc _) (by simp)).kept hk4 (by simp);have h4:=(h3.kept ((ab.refl [] _).alloc _) (by simp)).kept hk4 (by simp);have hr4:=hk4.get (((ab.refl [] _).alloc _).get hr3 (by simp)) (by simp);have hkp4:=(hkp3.alloc _).trans (hk4.mono (by simp));rw[HC.out]at h4;simp only at h4;have hb4:=ae h4;have hI4:=ae hi4;have hR4:=ae hr4;clear q0 q1 q2 q3 q4 q5 hi2 hr2 hkp2 hk4 hi3 hr3 hkp3 hk3 h3 h22;obtain⟨p0,p1,p2,p3,p4,p5⟩:=hl4.cells;obtain⟨z0,z1,z2,z3,z4,z5⟩:=fN hr4;have y:=ak hr4;go_wp2
     exact bodyPost_ret (v:=ew n d ⟨ct,cu,cf,cp⟩) (by simp[results,Tryz.results155,go_sem,ew,z0,z1,z2,z3,z4,z5]) rfl
      (by rw[hs.out,HF.out];exact⟨rfl,fG h4 (by omega) _ _ _ _ _ _,gd hkp4 (Nat.le_refl _) _ _ _ _ _ _⟩)
    ·have HF:Hid (av d j=av d cz):=L4.out hcw
     clear L4 L5;go_wp2_with fail;refine(cr t n u (aL d p) (aW d p) _ _).mono ?_;rintro e w2 ⟨rfl,hk2⟩;have hi2:=hi.kept hk2 (by simp);have h22:=h2.kept hk2 (by simp);have hr2:=hk2.get hr (by simp);have hkp2:=hkp.trans (hk2.mono (by simp));clear q0 q1 q2 q3 q4 q5 hi h2 hr hkp hk2;obtain⟨q0,q1,q2,q3,q4,q5⟩:=hi2.cells;go_wp2_with fail;refine(rI b z n d _ hd hrl.2.1 h22).mono ?_;rintro e w3 ⟨rfl,h3,hk3⟩;have hi3:=hi2.kept hk3 (by simp;omega);have hr3:=hk3.get hr2 (by simp;omega);have hkp3:=hkp2.trans hk3;have hb3:=ae h3;have hI3:=ae hi3;have hR3:=ae hr3;simp only[ew];rw[HC.out];simp only;go_wp2_with fail;refine(cr ct n cu (aL d cp) (aW d cp) _ _).mono ?_;rintro e w4 ⟨rfl,hk4⟩;have hl4:iq w4 w3.heap.size n d ⟨ct,cu,cf,cp⟩:=hk4.get (heap_alloc_new _ _) (by simp);have hi4:=(hi3.kept ((ab.refl [] _).alloc _) (by simp)).kept hk4 (by simp);have h4:=(h3.kept ((ab.refl [] _).alloc _) (by simp)).kept hk4 (by simp);have hr4:=hk4.get (((ab.refl [] _).alloc _).get hr3 (by simp)) (by simp);have hkp4:=(hkp3.alloc _).trans (hk4.mono (by simp));rw[HC.out]at h4;simp only at h4;have hb4:=ae h4;have hI4:=ae hi4;have hR4:=ae hr4;clear q0 q1 q2 q3 q4 q5 hi2 hr2 hkp2 hk4 hi3 hr3 hkp3 hk3 h3 h22;obtain⟨p0,p1,p2,p3,p4,p5⟩:=hl4.cells;go_wp2_with fail;refine(sK b cz n d _ hd hcl.2 h4).mono ?_;rintro e w5 ⟨rfl,h5,hk5⟩;have hi5:=hi4.kept hk5 (by simp;omega);have hr5:=hk5.get hr4 (by simp;omega);have hkp5:=hkp4.trans hk5;have yy:=ak hi5;have hI5:=ae hi5;obtain⟨q0,q1,q2,q3,q4,q5⟩:=hi5.cells;simp only[ew];go_wp2
     go_roundg (d.size-cz)
     case measure=>have:=hrl.2.2 hw;omega
     case rel=>exact⟨cz,hcl.2,rfl,hs.out.trans HF.out,fG h5 (by omega) _ _ _ _ _ _,nH hi5 _,rj hr5 (by omega) _ _ _ _ _ _,gd hkp5 (by omega) _ _ _ _ _ _⟩
structure Pl where
  file:ByteArray
  line:Int
  col:Int
structure St where
  kind:Int
  label:ByteArray
  symbols:List ByteArray
  proof:List (ByteArray×Pl)
  fin:Pl
  til:Nat
structure Db where
  labels:List ByteArray
  constants:List ByteArray
  variables:List ByteArray
  active:List ByteArray
  typed:List ByteArray
  blocks:List (Nat×Nat)
  sts:List St
  rbl:List Nat
  kind:Int
  label:ByteArray
  symbols:List ByteArray
  inProof:Bool
  proof:List (ByteArray×Pl)
def dO(l:List ByteArray):List Value:=l.map Value.string
def nL(l:List (Nat×Nat)):List Value:=l.flatMap (fun p=>[.int .i64 p.1,.int .i64 p.2])
def iW(l:List Nat):List Value:=l.map (fun(n:Nat)=>.int .i64 n)
def oR(p:ByteArray×Pl):List Value:=[.string p.1,.string p.2.file,.int .i64 p.2.line,.int .i64 p.2.col]
def lU(l:List (ByteArray×Pl)):List Value:=l.flatMap oR
def E1(s:St)(a b:Hd):List Value :=
  [.int .i64 s.kind,.string s.label,.slice a.ao s.symbols.length a.cap,.slice b.ao s.proof.length b.cap,.string s.fin.file,.int .i64 s.fin.line,.int .i64 s.fin.col,.int .i64 s.til]
def kR(l:List St)(H:Nat->Hd):List Value:=l.zipIdx.flatMap (fun p=>E1 p.1 (H (10+2*p.2)) (H (11+2*p.2)))
def aD(l:List ByteArray):dK:=⟨9,1,l.length,dO l⟩
def mb(l:List (Nat×Nat)):dK:=⟨337,2,l.length,nL l⟩
def bq(l:List Nat):dK:=⟨3,1,l.length,iW l⟩
def fE(l:List (ByteArray×Pl)):dK:=⟨229,4,l.length,lU l⟩
def gB(l:List St)(H:Nat->Hd):dK:=⟨158,8,l.length,kR l H⟩
def fR(l:List St)(i:Nat):List ByteArray:=match l[i]? with | some s=>s.symbols | none=>[]
def qi(l:List St)(i:Nat):List (ByteArray×Pl):=match l[i]? with | some s=>s.proof | none=>[]
def inner(l:List St)(n:Nat):dK:=if n % 2=0 then aD (fR l (n / 2)) else fE (qi l (n / 2))
def aP(d:Db)(H:Nat->Hd):Nat->dK
  | 0=>aD d.labels
  | 1=>aD d.constants
  | 2=>aD d.variables
  | 3=>aD d.active
  | 4=>aD d.typed
  | 5=>mb d.blocks
  | 6=>gB d.sts H
  | 7=>bq d.rbl
  | 8=>aD d.symbols
  | 9=>fE d.proof
  | n+10=>inner d.sts n
def bU(d:Db)(H:Nat->Hd):List Value :=
  [.slice (H 0).ao d.labels.length (H 0).cap,.slice (H 1).ao d.constants.length (H 1).cap,.slice (H 2).ao d.variables.length (H 2).cap,.slice (H 3).ao d.active.length (H 3).cap,
   .slice (H 4).ao d.typed.length (H 4).cap,.slice (H 5).ao d.blocks.length (H 5).cap,.slice (H 6).ao d.sts.length (H 6).cap,.slice (H 7).ao d.rbl.length (H 7).cap,
   .int .i64 d.kind,.string d.label,.slice (H 8).ao d.symbols.length (H 8).cap,.bool d.inProof,.slice (H 9).ao d.proof.length (H 9).cap]
def fM{α:Type}(H:Nat->α)(i:Nat)(h:α):Nat->α:=fun j=>if j=i then h else H j
theorem cK{α:Type}(H:Nat->α)(i:Nat)(h:α):fM H i h i=h:=by simp[fM]
theorem bL{α:Type}(H:Nat->α)(i j:Nat)(h:α)(hj:j≠i):fM H i h j=H j:=by simp[fM,hj]
theorem Ip{α:Type}(H:Nat->α)(i:Nat):fM H i (H i)=H:=by funext j;unfold fM;split <;> simp_all
theorem uH(l:List St)(H H':Nat->Hd)(h:∀j,10<=j->H' j=H j):kR l H'=kR l H:=by
  unfold kR;congr 1;funext p;rw[h _ (by omega),h _ (by omega)]
theorem Ha(d:Db)(H:Nat->Hd)(i:Nat)(h:Hd)(hi:i<10)(j:Nat):aP d (fM H i h) j=aP d H j:=by
  have e:kR d.sts (fM H i h)=kR d.sts H:=uH _ _ _ (fun j hj=>bL _ _ _ _ (by omega));unfold aP
  split <;> first | rfl | (simp only[gB,e])
def fm(H:Nat->Hd)(k:Nat):Prop:=∃i,(H i).blk=some k
structure dQ(P:Nat->Prop)(w w':World):Prop where
  os:w'.os=w.os
  tape:w'.tape=w.tape
  output:w'.output=w.output
  size:w.heap.size<=w'.heap.size
  block:∀k,k<w.heap.size->¬P k->w'.heap[k]?=w.heap[k]?
theorem dQ.refl(P:Nat->Prop)(w:World):dQ P w w:=⟨rfl,rfl,rfl,Nat.le_refl _,fun _ _ _=>rfl⟩
theorem ab.toP{S:List Nat}{w w':World}(h:ab S w w'){P:Nat->Prop}(hP:∀k,k∈S->k<w.heap.size->P k):dQ P w w' :=
  ⟨h.os,h.tape,h.output,h.size,fun k hk hn=>h.block k hk (fun hm=>hn (hP k hm hk))⟩
theorem dQ.get{P:Nat->Prop}{w w':World}(h:dQ P w w'){k:Nat}{o:Obj}(ho:w.heap[k]?=some o)(hk:¬P k):w'.heap[k]?=some o:=(h.block k (ae ho) hk).trans ho
theorem dQ.still{P:Nat->Prop}{a b c:World}(h:dQ P a b)(k:ab [] b c):dQ P a c :=
  ⟨k.os.trans h.os,k.tape.trans h.tape,k.output.trans h.output,Nat.le_trans h.size k.size,fun i hi hn=>(k.block i (Nat.lt_of_lt_of_le hi h.size) (by simp)).trans (h.block i hi hn)⟩
theorem dQ.setCell{P:Nat->Prop}{a w:World}(h:dQ P a w){p:Addr}(hp:P p.block∨a.heap.size<=p.block)(u:Value):dQ P a (w.setCell p u) :=
  ⟨h.os,h.tape,h.output,by have:=h.size;simp[World.setCell];omega,fun k hk hs=>by
    rw[Below.heap_setCell _ _ _ _ (by rintro rfl;exact hp.elim hs (fun hp=>by omega))];exact h.block k hk hs⟩
structure aN(w:World)(b t:Nat)(pre post:List Value)(d:Db)(H:Nat->Hd):Prop where
  blk:w.heap[b]?=some (.cells (pre++(bU d H++post)).toArray t (0,0))
  own:∀i,aA w (H i) (aP d H i)
  apart:∀i j,i≠j->(H i).blk=none∨(H i).blk≠(H j).blk
  off:∀i,(H i).blk≠some b
theorem aN.lt{w:World}{b t:Nat}{pre post:List Value}{d:Db}{H:Nat->Hd}(h:aN w b t pre post d H):b<w.heap.size:=ae h.blk
theorem aN.free{w:World}{b t:Nat}{pre post:List Value}{d:Db}{H:Nat->Hd}(h:aN w b t pre post d H)(i:Nat):w.frozen? ⟨b,i,none⟩=false:=ak h.blk i
theorem aN.inlt{w:World}{b t:Nat}{pre post:List Value}{d:Db}{H:Nat->Hd}(h:aN w b t pre post d H){k:Nat}(hk:fm H k):k<w.heap.size:=by
  obtain⟨i,hi⟩:=hk;exact(h.own i).lt hi
theorem aN.keptP{w w':World}{b t:Nat}{pre post:List Value}{d:Db}{H:Nat->Hd}{P:Nat->Prop}(h:aN w b t pre post d H)(hk:dQ P w w')(hb:¬P b)(hs:∀k,fm H k->¬P k):aN w' b t pre post d H :=
  ⟨hk.get h.blk hb,fun i=>(h.own i).moved (fun k hk'=>hk.block k ((h.own i).lt hk') (hs k ⟨i,hk'⟩)),h.apart,h.off⟩
theorem aN.kept{w w':World}{b t:Nat}{pre post:List Value}{d:Db}{H:Nat->Hd}{S:List Nat}(h:aN w b t pre post d H)(hk:ab S w w')(hb:b∉S)(hs:∀k,fm H k->k∉S):aN w' b t pre post d H :=
  h.keptP (hk.toP (P:=(·∈S)) (fun _ hm _=>hm)) hb hs
theorem aN.still{w w':World}{b t:Nat}{pre post:List Value}{d:Db}{H:Nat->Hd}(h:aN w b t pre post d H)(hk:ab [] w w'):aN w' b t pre post d H:=h.kept hk (by simp) (by simp)
theorem xq(pre l post:List Value)(o i:Nat)(ho:pre.length=o)(hi:i<l.length):(pre++(l++post)).toArray[o+i]?=l[i]?:=by
  subst ho;simp[List.getElem?_append_right,List.getElem?_append_left hi]
theorem CO(pre l post:List Value)(o i:Nat)(u:Value)(ho:pre.length=o)(hi:i<l.length):(pre++(l++post)).set (o+i) u=pre++(l.set i u++post):=by
  subst ho;rw[List.set_append_right _ _ (by omega),show pre.length+i-pre.length=i by omega,List.set_append_left _ _ hi]
theorem aN.cellAt{w:World}{b t:Nat}{pre post:List Value}{d:Db}{H:Nat->Hd}(h:aN w b t pre post d H)(o:Nat)(ho:pre.length=o)(i:Nat)(hi:i<13):w.cell? ⟨b,o+i,none⟩=(bU d H)[i]? :=
  (aa h.blk (o+i)).trans (xq pre (bU d H) post o i ho hi)
theorem aN.cells{w:World}{b t:Nat}{pre post:List Value}{d:Db}{H:Nat->Hd}(h:aN w b t pre post d H)(o:Nat)(ho:pre.length=o) :
    w.cell? ⟨b,o,none⟩=some (.slice (H 0).ao d.labels.length (H 0).cap)/\w.cell? ⟨b,o+1,none⟩=some (.slice (H 1).ao d.constants.length (H 1).cap) /\
    w.cell? ⟨b,o+2,none⟩=some (.slice (H 2).ao d.variables.length (H 2).cap)/\w.cell? ⟨b,o+3,none⟩=some (.slice (H 3).ao d.active.length (H 3).cap) /\
    w.cell? ⟨b,o+4,none⟩=some (.slice (H 4).ao d.typed.length (H 4).cap)/\w.cell? ⟨b,o+5,none⟩=some (.slice (H 5).ao d.blocks.length (H 5).cap) /\
    w.cell? ⟨b,o+6,none⟩=some (.slice (H 6).ao d.sts.length (H 6).cap)/\w.cell? ⟨b,o+7,none⟩=some (.slice (H 7).ao d.rbl.length (H 7).cap) /\
    w.cell? ⟨b,o+8,none⟩=some (.int .i64 d.kind)/\w.cell? ⟨b,o+9,none⟩=some (.string d.label)/\w.cell? ⟨b,o+10,none⟩=some (.slice (H 8).ao d.symbols.length (H 8).cap) /\
    w.cell? ⟨b,o+11,none⟩=some (.bool d.inProof)/\w.cell? ⟨b,o+12,none⟩=some (.slice (H 9).ao d.proof.length (H 9).cap):=by
  have m:=h.cellAt o ho;exact⟨m 0 (by omega),m 1 (by omega),m 2 (by omega),m 3 (by omega),m 4 (by omega),m 5 (by omega),m 6 (by omega),m 7 (by omega),m 8 (by omega),m 9 (by omega),m 10 (by omega),m 11 (by omega),m 12 (by omega)⟩
def aw(b:Nat)(w:World)(H:Nat->Hd)(w':World)(H':Nat->Hd):Prop :=
  dQ (fun k=>k=b∨fm H k) w w'/\∀k,fm H' k->fm H k∨w.heap.size<=k
theorem aw.refl(b:Nat)(w:World)(H:Nat->Hd):aw b w H w H:=⟨dQ.refl _ _,fun _ hk=>Or.inl hk⟩
theorem aw.trans{b:Nat}{w0 w1 w2:World}{H0 H1 H2:Nat->Hd}(a:aw b w0 H0 w1 H1)(c:aw b w1 H1 w2 H2):aw b w0 H0 w2 H2:=by
  refine⟨⟨c.1.os.trans a.1.os,c.1.tape.trans a.1.tape,c.1.output.trans a.1.output,Nat.le_trans a.1.size c.1.size,?_⟩,?_⟩
  · intro k hk hn
    rw[<-a.1.block k hk hn];refine c.1.block k (Nat.lt_of_lt_of_le hk a.1.size) ?_;rintro (e | hm)
    · exact hn (Or.inl e)
    · rcases a.2 k hm with h | h
      · exact hn (Or.inr h)
      · omega
  · intro k hk
    rcases c.2 k hk with h | h
    · exact a.2 k h
    · exact Or.inr (Nat.le_trans a.1.size h)
theorem aw.still{b:Nat}{w0 w1 w2:World}{H0 H1:Nat->Hd}(a:aw b w0 H0 w1 H1)(c:ab [] w1 w2):aw b w0 H0 w2 H1 :=
  a.trans ⟨c.toP (by simp),fun _ hk=>Or.inl hk⟩
theorem aw.first{b:Nat}{w0 w1 w2:World}{H0 H1:Nat->Hd}(c:ab [] w0 w1)(a:aw b w1 H0 w2 H1):aw b w0 H0 w2 H1 :=
  aw.trans ⟨c.toP (by simp),fun _ hk=>Or.inl hk⟩ a
theorem aN.putG{w w1:World}{b t:Nat}{pre post:List Value}{d d':Db}{H:Nat->Hd}(h:aN w b t pre post d H)(o c:Nat)(ho:pre.length=o)(i:Nat)(hi:i<10)(h':Hd)
    (o1:aA w1 h' (aP d' H i)) (hg:w.grownBy w1 (H i).blk)
    (hf:h'.blk=none∨h'.blk=(H i).blk∨∃g,h'.blk=some g/\w.heap.size<=g) (hrow:∀j,j≠i->aA w (H j) (aP d' H j))
    (u:Value) (hc:c<13) (hl:(bU d H).set c u=bU d' (fM H i h')) :
    aN (w1.setCell ⟨b,o+c,none⟩ u) b t pre post d' (fM H i h')/\aw b w H (w1.setCell ⟨b,o+c,none⟩ u) (fM H i h'):=by
  have hb:=h.lt;have hb1:w1.heap[b]?=some (.cells (pre++(bU d H++post)).toArray t (0,0)):=(hg.block b hb (fun e=>h.off i e.symm)).trans h.blk
  have hoff:∀j,(fM H i h' j).blk≠some b:=by
    intro j
    by_cases e:j=i
    · subst e;rw[cK];intro hx
      rcases hf with hf | hf | ⟨g,hf,hg'⟩
      · rw[hf]at hx;cases hx
      · exact h.off j (hf ▸ hx)
      · rw[hf]at hx;cases hx;omega
    · rw[bL _ _ _ _ e];exact h.off j
  refine⟨⟨?_,?_,?_,hoff⟩,⟨hg.os,hg.tape,hg.output,by have:=hg.size;simp[World.setCell];omega,?_⟩,?_⟩
  · rw[ah hb1,List.setIfInBounds_toArray,CO pre (bU d H) post o c u ho hc,hl]
  · intro j
    have q:aA w1 (fM H i h' j) (aP d' (fM H i h') j):=by
      rw[Ha d' H i h' hi j]
      by_cases e:j=i
      · subst e;rw[cK];exact o1
      · rw[bL _ _ _ _ e]
        refine(hrow j e).moved (fun k hk=>hg.block k ((h.own j).lt hk) ?_);intro ek
        rcases h.apart j i e with a | a
        · rw[a]at hk;cases hk
        · exact a (hk.trans ek)
    refine q.moved (fun k hk=>Below.heap_setCell _ _ _ _ ?_);rintro rfl;exact hoff j hk
  · intro j l hne
    by_cases e:j=i
    · subst e
      rw[cK,bL _ _ _ _ (fun e=>hne e.symm)]
      rcases hf with hf | hf | ⟨g,hf,hg'⟩
      · exact Or.inl hf
      · rw[hf];exact h.apart j l hne
      · right;rw[hf];intro ek;have:=(h.own l).lt ek.symm;omega
    · rw[bL _ _ _ _ e]
      by_cases e2:l=i
      · subst e2
        rw[cK]
        rcases hf with hf | hf | ⟨g,hf,hg'⟩
        · rw[hf];cases (H j).blk <;> simp
        · rw[hf];exact h.apart j l hne
        · cases hx:(H j).blk with
          | none=>exact Or.inl rfl
          | some k=>right;rw[hf];intro ek;cases ek;have:=(h.own j).lt hx;omega
      · rw[bL _ _ _ _ e2];exact h.apart j l hne
  · intro k hk hn
    rw[Below.heap_setCell _ _ _ _ (fun e=>hn (Or.inl e))];exact hg.block k hk (fun e=>hn (Or.inr ⟨i,e.symm⟩))
  · intro k hk
    obtain⟨j,e⟩:=hk
    by_cases ei:j=i
    · subst ei
      rw[cK]at e
      rcases hf with hf | hf | ⟨g,hf,hg'⟩
      · rw[hf]at e;cases e
      · exact Or.inl ⟨j,hf ▸ e⟩
      · rw[hf]at e;cases e;exact Or.inr hg'
    · rw[bL _ _ _ _ ei]at e
      exact Or.inl ⟨j,e⟩
theorem aN.put{w w1:World}{b t:Nat}{pre post:List Value}{d d':Db}{H:Nat->Hd}(h:aN w b t pre post d H)(o c:Nat)(ho:pre.length=o)(i:Nat)(hi:i<10)(h':Hd)
    (o1:aA w1 h' (aP d' H i)) (hg:w.grownBy w1 (H i).blk)
    (hf:h'.blk=none∨h'.blk=(H i).blk∨∃g,h'.blk=some g/\w.heap.size<=g) (hrow:∀j,j≠i->aP d' H j=aP d H j)
    (u:Value) (hc:c<13) (hl:(bU d H).set c u=bU d' (fM H i h')) :
    aN (w1.setCell ⟨b,o+c,none⟩ u) b t pre post d' (fM H i h')/\aw b w H (w1.setCell ⟨b,o+c,none⟩ u) (fM H i h') :=
  h.putG o c ho i hi h' o1 hg hf (fun j hj=>by rw[hrow j hj];exact h.own j) u hc hl
theorem aN.set{w:World}{b t:Nat}{pre post:List Value}{d d':Db}{H:Nat->Hd}(h:aN w b t pre post d H)(o c:Nat)(ho:pre.length=o)
    (hrow:∀j,aP d' H j=aP d H j) (u:Value) (hc:c<13) (hl:(bU d H).set c u=bU d' H) :
    aN (w.setCell ⟨b,o+c,none⟩ u) b t pre post d' H/\aw b w H (w.setCell ⟨b,o+c,none⟩ u) H:=by
  refine⟨⟨?_,?_,h.apart,h.off⟩,(dQ.refl _ _).setCell (Or.inl (Or.inl rfl)) _,fun _ hk=>Or.inl hk⟩
  · rw[ah h.blk,List.setIfInBounds_toArray,CO pre (bU d H) post o c u ho hc,hl]
  · intro j
    rw[hrow j];refine(h.own j).moved (fun k hk=>Below.heap_setCell _ _ _ _ ?_);rintro rfl;exact h.off j hk
theorem aN.app{w w1:World}{b t:Nat}{pre post:List Value}{d d':Db}{H:Nat->Hd}(h:aN w b t pre post d H)(o c:Nat)(ho:pre.length=o)(i:Nat)(hi:i<10)(g cap' m:Nat)(r:dK)
    (hw1:aA w1 ⟨some ⟨g,0,none⟩,cap'⟩ r) (hr:r=aP d' H i) (hgr:w.grownBy w1 (H i).blk) (hfresh:(H i).blk=some g∨w.heap.size<=g)
    (hrow:∀j,j≠i->aP d' H j=aP d H j) (hc:c<13) (v0:Value) (hv:(bU d H)[c]?=some v0)
    (hl:(bU d H).set c (.slice (some ⟨g,0,none⟩) m cap')=bU d' (fM H i ⟨some ⟨g,0,none⟩,cap'⟩)) :
    w1.cell? ⟨b,o+c,none⟩=some v0/\w1.frozen? ⟨b,o+c,none⟩=false /\
    Hid (aN (w1.setCell ⟨b,o+c,none⟩ (.slice (some ⟨g,0,none⟩) m cap')) b t pre post d' (fM H i ⟨some ⟨g,0,none⟩,cap'⟩) /\
      aw b w H (w1.setCell ⟨b,o+c,none⟩ (.slice (some ⟨g,0,none⟩) m cap')) (fM H i ⟨some ⟨g,0,none⟩,cap'⟩)):=by
  have hk:=(hgr.block b h.lt (fun e=>h.off i e.symm)).trans h.blk;subst hr;refine⟨((aa hk (o+c)).trans (xq pre (bU d H) post o c ho hc)).trans hv,ak hk _,?_⟩
  exact h.put (d':=d') o c ho i hi ⟨some ⟨g,0,none⟩,cap'⟩ hw1 hgr
    (by rcases hfresh with e | e
        · exact Or.inr (Or.inl e.symm)
        · exact Or.inr (Or.inr ⟨g,rfl,by simpa using e⟩)) hrow _ hc hl
theorem zy(d:Db)(H:Nat->Hd)(l:List ByteArray):∀j,j≠0->aP { d with labels:=l } H j=aP d H j:=by
  intro j hne
  match j with
  | 0=>exact absurd rfl hne
  | 1=>rfl
  | 2=>rfl
  | 3=>rfl
  | 4=>rfl
  | 5=>rfl
  | 6=>rfl
  | 7=>rfl
  | 8=>rfl
  | 9=>rfl
  | n+10=>rfl
theorem uu(d:Db)(H:Nat->Hd)(l:List ByteArray):∀j,j≠1->aP { d with constants:=l } H j=aP d H j:=by
  intro j hne
  match j with
  | 0=>rfl
  | 1=>exact absurd rfl hne
  | 2=>rfl
  | 3=>rfl
  | 4=>rfl
  | 5=>rfl
  | 6=>rfl
  | 7=>rfl
  | 8=>rfl
  | 9=>rfl
  | n+10=>rfl
theorem ux(d:Db)(H:Nat->Hd)(l:List ByteArray):∀j,j≠2->aP { d with variables:=l } H j=aP d H j:=by
  intro j hne
  match j with
  | 0=>rfl
  | 1=>rfl
  | 2=>exact absurd rfl hne
  | 3=>rfl
  | 4=>rfl
  | 5=>rfl
  | 6=>rfl
  | 7=>rfl
  | 8=>rfl
  | 9=>rfl
  | n+10=>rfl
theorem rT(d:Db)(H:Nat->Hd)(l:List ByteArray):∀j,j≠3->aP { d with active:=l } H j=aP d H j:=by
  intro j hne
  match j with
  | 0=>rfl
  | 1=>rfl
  | 2=>rfl
  | 3=>exact absurd rfl hne
  | 4=>rfl
  | 5=>rfl
  | 6=>rfl
  | 7=>rfl
  | 8=>rfl
  | 9=>rfl
  | n+10=>rfl
theorem uw(d:Db)(H:Nat->Hd)(l:List ByteArray):∀j,j≠4->aP { d with typed:=l } H j=aP d H j:=by
  intro j hne
  match j with
  | 0=>rfl
  | 1=>rfl
  | 2=>rfl
  | 3=>rfl
  | 4=>exact absurd rfl hne
  | 5=>rfl
  | 6=>rfl
  | 7=>rfl
  | 8=>rfl
  | 9=>rfl
  | n+10=>rfl
theorem rU(d:Db)(H:Nat->Hd)(l:List (Nat×Nat)):∀j,j≠5->aP { d with blocks:=l } H j=aP d H j:=by
  intro j hne
  match j with
  | 0=>rfl
  | 1=>rfl
  | 2=>rfl
  | 3=>rfl
  | 4=>rfl
  | 5=>exact absurd rfl hne
  | 6=>rfl
  | 7=>rfl
  | 8=>rfl
  | 9=>rfl
  | n+10=>rfl
theorem zz(d:Db)(H:Nat->Hd)(l:List Nat):∀j,j≠7->aP { d with rbl:=l } H j=aP d H j:=by
  intro j hne
  match j with
  | 0=>rfl
  | 1=>rfl
  | 2=>rfl
  | 3=>rfl
  | 4=>rfl
  | 5=>rfl
  | 6=>rfl
  | 7=>exact absurd rfl hne
  | 8=>rfl
  | 9=>rfl
  | n+10=>rfl
theorem qo(d:Db)(H:Nat->Hd)(l:List ByteArray):∀j,j≠8->aP { d with symbols:=l } H j=aP d H j:=by
  intro j hne
  match j with
  | 0=>rfl
  | 1=>rfl
  | 2=>rfl
  | 3=>rfl
  | 4=>rfl
  | 5=>rfl
  | 6=>rfl
  | 7=>rfl
  | 8=>exact absurd rfl hne
  | 9=>rfl
  | n+10=>rfl
theorem uv(d:Db)(H:Nat->Hd)(l:List (ByteArray×Pl)):∀j,j≠9->aP { d with proof:=l } H j=aP d H j:=by
  intro j hne
  match j with
  | 0=>rfl
  | 1=>rfl
  | 2=>rfl
  | 3=>rfl
  | 4=>rfl
  | 5=>rfl
  | 6=>rfl
  | 7=>rfl
  | 8=>rfl
  | 9=>exact absurd rfl hne
  | n+10=>rfl
theorem EQ(d:Db)(H:Nat->Hd)(l:Int):∀j,aP { d with kind:=l } H j=aP d H j:=by
  intro j
  match j with
  | 0=>rfl
  | 1=>rfl
  | 2=>rfl
  | 3=>rfl
  | 4=>rfl
  | 5=>rfl
  | 6=>rfl
  | 7=>rfl
  | 8=>rfl
  | 9=>rfl
  | n+10=>rfl
theorem Bs(d:Db)(H:Nat->Hd)(l:ByteArray):∀j,aP { d with label:=l } H j=aP d H j:=by
  intro j
  match j with
  | 0=>rfl
  | 1=>rfl
  | 2=>rfl
  | 3=>rfl
  | 4=>rfl
  | 5=>rfl
  | 6=>rfl
  | 7=>rfl
  | 8=>rfl
  | 9=>rfl
  | n+10=>rfl
theorem xC(d:Db)(H:Nat->Hd)(l:Bool):∀j,aP { d with inProof:=l } H j=aP d H j:=by
  intro j
  match j with
  | 0=>rfl
  | 1=>rfl
  | 2=>rfl
  | 3=>rfl
  | 4=>rfl
  | 5=>rfl
  | 6=>rfl
  | 7=>rfl
  | 8=>rfl
  | 9=>rfl
  | n+10=>rfl
end Go.Proofs.YtpddjjabfbfifaaGreat
