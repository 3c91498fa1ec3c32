import Derived.Deep.RegionHeld3
import Derived.Test.YtpddjjabfbfifaaGreatG10
namespace Go.Proofs.YtpddjjabfbfifaaGreat
open Go.RowKit
set_option maxHeartbeats 40000000
def eE:Db:=⟨[],[],[],[],[],[],[],[],0,⟨#[]⟩,[],false,[]⟩
abbrev oR:=Int×Pl
def cI:oR:=(0,⟨⟨#[]⟩,0,0⟩)
def gx(f:oR):Value:=.agg #[.int .i64 f.1,.string f.2.file,.int .i64 f.2.line,.int .i64 f.2.col]
def jB(n s:ByteArray)(p:Nat):Pl:=⟨n,aL s p,aW s p⟩
def gF(n s:ByteArray)(i:pF):oR:=(if i.fin=true then 7 else i.rule,jB n s i.pos)
abbrev Gi:=oR×List Bool×Db
def pq(fs:Fs)(x z:Nat)(p:Pl)(d:Db):oR ⊕ (Nat×Nat) :=
  if jb d=true then .inl (4,p)
  else if aG (av (aj fs x) z).1=false then .inl (gF (aC fs x) (aj fs x) (av (aj fs x) z).1)
  else if dw (av (aj fs x) z).1.text=true then .inl (5,jB (aC fs x) (aj fs x) (av (aj fs x) z).1.pos)
  else if bt fs (av (aj fs x) z).1.text<0 then .inl (6,jB (aC fs x) (aj fs x) (av (aj fs x) z).1.pos)
  else if aG (av (aj fs x) (av (aj fs x) z).2).1=false then .inl (gF (aC fs x) (aj fs x) (av (aj fs x) (av (aj fs x) z).2).1)
  else if((av (aj fs x) (av (aj fs x) z).2).1.text.toList == [36,93])=false then .inl (5,jB (aC fs x) (aj fs x) (av (aj fs x) (av (aj fs x) z).2).1.pos)
  else .inr ((bt fs (av (aj fs x) z).1.text).toNat,(av (aj fs x) (av (aj fs x) z).2).2)
def lC(rf:Nat->List Bool->Db->Gi)(fs:Fs)(x z:Nat)(p:Pl)(bg:List Bool)(d:Db):Gi×Nat :=
  match pq fs x z p d with
  | .inl f=>((f,bg,d),z)
  | .inr (j,z')=>(rf j bg d,z')
def iG(rf:Nat->List Bool->Db->Gi)(fs:Fs)(x z:Nat)(t:ByteArray)(p:Pl)(bg:List Bool)(d:Db):Gi×Nat :=
  if(t.toList == [36,91])=true then lC rf fs x z p bg d
  else((if((aV d t p).1==0)=true then cI else((aV d t p).1,p),bg,(aV d t p).2),z)
def aX(fs:Fs):Nat->Nat->Nat->List Bool->Db->Gi
  | 0,_,_,bg,d=>(cI,bg,d)
  | f+1,x,k,bg,d =>
    if aG (av (aj fs x) k).1=true then
      (if((iG (fun j bg d=>if bg.getD j true=true then(cI,bg,d) else aX fs f j 0 (bg.set j true) d) fs x (av (aj fs x) k).2 (av (aj fs x) k).1.text (jB (aC fs x) (aj fs x) (av (aj fs x) k).1.pos) bg d).1.1.1==0)=true
       then aX fs f x (iG (fun j bg d=>if bg.getD j true=true then(cI,bg,d) else aX fs f j 0 (bg.set j true) d) fs x (av (aj fs x) k).2 (av (aj fs x) k).1.text (jB (aC fs x) (aj fs x) (av (aj fs x) k).1.pos) bg d).2
          (iG (fun j bg d=>if bg.getD j true=true then(cI,bg,d) else aX fs f j 0 (bg.set j true) d) fs x (av (aj fs x) k).2 (av (aj fs x) k).1.text (jB (aC fs x) (aj fs x) (av (aj fs x) k).1.pos) bg d).1.2.1
          (iG (fun j bg d=>if bg.getD j true=true then(cI,bg,d) else aX fs f j 0 (bg.set j true) d) fs x (av (aj fs x) k).2 (av (aj fs x) k).1.text (jB (aC fs x) (aj fs x) (av (aj fs x) k).1.pos) bg d).1.2.2
       else(iG (fun j bg d=>if bg.getD j true=true then(cI,bg,d) else aX fs f j 0 (bg.set j true) d) fs x (av (aj fs x) k).2 (av (aj fs x) k).1.text (jB (aC fs x) (aj fs x) (av (aj fs x) k).1.pos) bg d).1)
    else if(av (aj fs x) k).1.fin=true/\jb d=false then(cI,bg,d) else(gF (aC fs x) (aj fs x) (av (aj fs x) k).1,bg,d)
def bZ(fs:Fs)(f:Nat)(j:Nat)(bg:List Bool)(d:Db):Gi :=
  if bg.getD j true=true then(cI,bg,d) else aX fs f j 0 (bg.set j true) d
def eW(fs:Fs)(f x k:Nat)(bg:List Bool)(d:Db):Gi×Nat :=
  iG (bZ fs f) fs x (av (aj fs x) k).2 (av (aj fs x) k).1.text (jB (aC fs x) (aj fs x) (av (aj fs x) k).1.pos) bg d
theorem wl(fs:Fs)(f x k:Nat)(bg:List Bool)(d:Db)(h1:aG (av (aj fs x) k).1=true)(h2:((eW fs f x k bg d).1.1.1==0)=true) :
    aX fs (f+1) x k bg d=aX fs f x (eW fs f x k bg d).2 (eW fs f x k bg d).1.2.1 (eW fs f x k bg d).1.2.2:=by
  rw[aX,if_pos h1];exact if_pos h2
theorem mO(fs:Fs)(f x k:Nat)(bg:List Bool)(d:Db)(h1:aG (av (aj fs x) k).1=true)(h2:((eW fs f x k bg d).1.1.1==0)=false) :
    aX fs (f+1) x k bg d=(eW fs f x k bg d).1:=by
  rw[aX,if_pos h1];exact if_neg (fun hh=>Bool.noConfusion (h2.symm.trans hh))
theorem xf(fs:Fs)(f x k:Nat)(bg:List Bool)(d:Db)(h1:aG (av (aj fs x) k).1=false)(h2:(av (aj fs x) k).1.fin=true)(h3:jb d=false) :
    aX fs (f+1) x k bg d=(cI,bg,d):=by
  rw[aX,if_neg (by simp[h1]),if_pos ⟨h2,h3⟩]
theorem ut(fs:Fs)(f x k:Nat)(bg:List Bool)(d:Db)(h1:aG (av (aj fs x) k).1=false)(h2:¬((av (aj fs x) k).1.fin=true/\jb d=false)) :
    aX fs (f+1) x k bg d=(gF (aC fs x) (aj fs x) (av (aj fs x) k).1,bg,d):=by
  rw[aX,if_neg (by simp[h1]),if_neg h2]
theorem i8{i:pF}(h:aG i=false)(hf:i.fin=false):(i.rule==0)=false:=by
  simp[aG,hf]at h;simpa using h
structure lW(d:Db)(m:Nat):Prop where
  labels:d.labels.length<=m
  constants:d.constants.length+d.symbols.length<=m
  variables:d.variables.length+d.symbols.length<=m
  active:d.active.length+d.symbols.length<=m
  typed:d.typed.length+d.symbols.length<=m
  blocks:d.blocks.length<=m
  sts:d.sts.length<=m
  proof:d.proof.length<=m
  inner:∀p,p∈d.blocks->p.1<=m/\p.2<=m
  same:d.rbl.length=d.blocks.length
  recs:∀x,x∈d.rbl->x<=d.sts.length
theorem lW.small{d:Db}{m N:Nat}(h:lW d m)(hN:m<=N):eS d N/\yF d N :=
  ⟨⟨by have:=h.labels;omega,by have:=h.constants;omega,by have:=h.variables;omega,by have:=h.active;omega,by have:=h.typed;omega,by have:=h.blocks;omega,by have:=h.sts;omega,by have:=h.blocks;have:=h.same;omega,by have:=h.constants;omega,by have:=h.proof;omega⟩,
   ⟨fun p hp=>by have:=h.inner p hp;omega,h.same,h.recs⟩⟩
theorem lW.mono{d:Db}{m m':Nat}(h:lW d m)(hm:m<=m'):lW d m' :=
  ⟨by have:=h.labels;omega,by have:=h.constants;omega,by have:=h.variables;omega,by have:=h.active;omega,by have:=h.typed;omega,by have:=h.blocks;omega,by have:=h.sts;omega,by have:=h.proof;omega,fun p hp=>by have:=h.inner p hp;omega,h.same,h.recs⟩
theorem lW.empty:lW eE 0:=by
  refine⟨?_,?_,?_,?_,?_,?_,?_,?_,?_,?_,?_⟩ <;> simp[eE]
theorem lW.plain{d:Db}{m:Nat}(h:lW d m)(k:Int)(l:ByteArray)(b:Bool):lW { d with kind:=k,label:=l,inProof:=b } m:=⟨h.labels,h.constants,h.variables,h.active,h.typed,h.blocks,h.sts,h.proof,h.inner,h.same,h.recs⟩
theorem uy(l:List St)(b:Nat):(jk l b).length=l.length:=jc l b l.length
theorem lW.declare{d:Db}{m:Nat}(h:lW d m)(p:Pl):lW { bu d p with kind:=0,label:=⟨#[]⟩,symbols:=[],inProof:=false,proof:=[] } (m+1):=by
  have e2:=h.constants;have e3:=h.variables;have e4:=h.active;have e5:=h.typed;have h':=h.mono (Nat.le_succ m);unfold bu
  split
  · exact⟨h'.labels,by simp;omega,by simp;omega,by simp;omega,by simp;omega,h'.blocks,h'.sts,by simp,h'.inner,h'.same,h'.recs⟩
  · split
    · have:=zZ d.variables (d.symbols.take d.symbols.length)
      simp only[List.take_length]at this;exact⟨h'.labels,by simp[dP];omega,by simp[dP];omega,by simp[dP];omega,by simp[dP];omega,h'.blocks,h'.sts,by simp,h'.inner,h'.same,h'.recs⟩
    · unfold mL ne
      have:=h.sts
      split
      · next hc=>exact⟨h'.labels,by simp;omega,by simp;omega,by simp;omega,by simp;omega,h'.blocks,by simp;omega,by simp,h'.inner,h'.same,fun x hx=>by have:=h.recs x hx;simp;omega⟩
      · exact⟨h'.labels,by simp;omega,by simp;omega,by simp;omega,by simp;omega,h'.blocks,by simp;omega,by simp,h'.inner,h'.same,fun x hx=>by have:=h.recs x hx;simp;omega⟩
theorem lW.take{d:Db}{m:Nat}(h:lW d m)(x:ByteArray)(pl:Pl):lW (aV d x pl).2 (m+1):=by
  have h':=h.mono (Nat.le_succ m);have hk:=fun k=>h'.plain k d.label d.inProof
  have e1:=h.labels;have e2:=h.constants;have e3:=h.variables;have e4:=h.active;have e5:=h.typed;have e6:=h.blocks
  have hlab:lW (bH d x).2 (m+1):=by
    unfold bH
    split
    · exact h'
    · split
      · exact h'
      · split
        · exact h'
        · exact⟨by simp;omega,h'.constants,h'.variables,h'.active,h'.typed,h'.blocks,h'.sts,h'.proof,h'.inner,h'.same,h'.recs⟩
  have hkey:lW (aJ d x).2 (m+1):=by
    unfold aJ
    split
    · exact hk 2
    · split
      · exact hk 3
      · split
        · exact hk 4
        · split
          · exact hk 5
          · exact h'
  have hfst:lW (ay d x).2 (m+1):=by
    unfold ay
    split
    · refine⟨h'.labels,h'.constants,h'.variables,h'.active,h'.typed,by simp;omega,h'.sts,h'.proof,?_,by simp[h.same],?_⟩
      · intro p hp
        simp only[List.mem_append,List.mem_singleton]at hp
        rcases hp with hp | rfl
        · exact h'.inner p hp
        · simp only;omega
      · intro y hy
        simp only[List.mem_append,List.mem_singleton]at hy
        rcases hy with hy | rfl
        · exact h.recs y hy
        · exact Nat.le_refl _
    · split
      · split
        · exact h'
        · next p hp =>
          unfold cv
          have hne:d.rbl≠[]:=by
            intro e;have:=h.same;rw[e,pa hp]at this;simp at this
          obtain⟨y,hy⟩:∃y,d.rbl.getLast?=some y:=⟨_,List.getLast?_eq_some_getLast hne⟩
          rw[hy];refine⟨h'.labels,h'.constants,h'.variables,?_,?_,?_,?_,h'.proof,?_,?_,?_⟩
          · simp only[cQ,List.length_take];omega
          · simp only[cQ,List.length_take];omega
          · simp only[cQ,List.length_dropLast];omega
          · show(jk d.sts y).length<=_;rw[uy];exact h'.sts
          · intro q hq
            simp only[cQ]at hq;exact h'.inner q (List.dropLast_subset _ hq)
          · simp only[cQ,List.length_dropLast,h.same]
          · intro q hq
            show q<=(jk d.sts y).length
            rw[uy];exact h.recs q (List.dropLast_subset _ hq)
      · split
        · split
          · exact h'
          · exact hk 7
        · split
          · exact hk 8
          · split
            · exact hk 1
            · split
              · exact h'
              · exact hlab
  have hend:lW (kR d pl).2 (m+1):=by
    unfold kR
    split
    · exact h'
    · split
      · exact h'
      · exact h.declare pl
  unfold aV
  split
  · exact hfst
  · split
    · exact hkey
    · split
      · exact hend
      · split
        · unfold bY
          split
          · exact h'
          · exact h'.plain d.kind d.label true
        · split
          · exact h'
          · split
            · exact⟨h'.labels,h'.constants,h'.variables,h'.active,h'.typed,h'.blocks,h'.sts,by have:=h.proof;simp;omega,h'.inner,h'.same,h'.recs⟩
            · split
              · exact⟨h'.labels,by simp;omega,by simp;omega,by simp;omega,by simp;omega,h'.blocks,h'.sts,h'.proof,h'.inner,h'.same,h'.recs⟩
              · exact h'
def Iy(fs:Fs)(bg:List Bool)(j:Nat):Nat:=if bg.getD j true=true then 0 else(aj fs j).size+2
def dy(fs:Fs)(bg:List Bool):Nat:=Iy fs bg 0+Iy fs bg 1+Iy fs bg 2+Iy fs bg 3
theorem uI(fs:Fs)(bg:List Bool)(j:Nat)(hl:bg.length=4)(hb:bg.getD j true=false):dy fs (bg.set j true)+(aj fs j).size+2=dy fs bg:=by
  match bg,hl with
  | [a,b,c,d],_ =>
    match j with
    | 0=>simp at hb;subst hb;simp[dy,Iy];omega
    | 1=>simp at hb;subst hb;simp[dy,Iy];omega
    | 2=>simp at hb;subst hb;simp[dy,Iy];omega
    | 3=>simp at hb;subst hb;simp[dy,Iy];omega
    | j+4=>simp at hb
def LD(fs:Fs)(bg:List Bool)(m:Nat)(r:Gi):Prop :=
  r.2.1.length=4/\dy fs r.2.1<=dy fs bg/\∃m',lW r.2.2 m'/\m'+dy fs r.2.1<=m+dy fs bg
theorem zy(fs:Fs)(f:Nat)(IH:∀j bg d m,bg.length=4->lW d m->LD fs bg m (bZ fs f j bg d))(x k:Nat)(bg:List Bool)(d:Db)(m:Nat)(hk:k<=(aj fs x).size)(hl:bg.length=4)(hB:lW d m)(hw:aG (av (aj fs x) k).1=true) :
    LD fs bg (m+1) (eW fs f x k bg d).1/\k<(eW fs f x k bg d).2/\(eW fs f x k bg d).2<=(aj fs x).size:=by
  have nl:=eM (aj fs x) k hk;have nl2:=nl.2.2 hw;unfold eW iG
  split
  · unfold lC
    split
    · exact⟨⟨hl,Nat.le_refl _,m,hB,by simp only;omega⟩,nl2,nl.2.1⟩
    · next j z' he =>
      have h2:=IH j bg d m hl hB;refine⟨⟨h2.1,h2.2.1,?_⟩,?_⟩
      · obtain⟨m',q1,q2⟩:=h2.2.2;exact⟨m',q1,by simp only;omega⟩
      · unfold pq at he
        have l1:=eM (aj fs x) (av (aj fs x) k).2 nl.2.1;have l2:=eM (aj fs x) (av (aj fs x) (av (aj fs x) k).2).2 l1.2.1
        repeat' split at he
        all_goals first | (cases he;done) | skip
        injection he with he
        injection he with he1 he2
        subst he2;omega
  · exact⟨⟨hl,Nat.le_refl _,m+1,hB.take _ _,by simp only;omega⟩,nl2,nl.2.1⟩
theorem GU(fs:Fs)(f:Nat):(∀x k bg d m,k<=(aj fs x).size->bg.length=4->lW d m->(aX fs f x k bg d).2.1.length=4/\dy fs (aX fs f x k bg d).2.1<=dy fs bg/\∃m',lW (aX fs f x k bg d).2.2 m'/\m'+dy fs (aX fs f x k bg d).2.1<=m+((aj fs x).size-k)+dy fs bg) /\
    (∀j bg d m,bg.length=4->lW d m->LD fs bg m (bZ fs f j bg d)):=by
  have second:∀f,(∀x k bg d m,k<=(aj fs x).size->bg.length=4->lW d m->(aX fs f x k bg d).2.1.length=4/\dy fs (aX fs f x k bg d).2.1<=dy fs bg/\∃m',lW (aX fs f x k bg d).2.2 m'/\m'+dy fs (aX fs f x k bg d).2.1<=m+((aj fs x).size-k)+dy fs bg) ->
      (∀j bg d m,bg.length=4->lW d m->LD fs bg m (bZ fs f j bg d)):=by
    intro f h j bg d m hl hB;unfold bZ
    split
    · exact⟨hl,Nat.le_refl _,m,hB,Nat.le_refl _⟩
    · next hb =>
      have hb':bg.getD j true=false:=by simpa using hb
      have hm:=uI fs bg j hl hb';have:=h j 0 (bg.set j true) d m (Nat.zero_le _) (by simpa using hl) hB;refine⟨this.1,by omega,?_⟩;obtain⟨m',q1,q2⟩:=this.2.2;exact⟨m',q1,by omega⟩
  induction f with
  | zero =>
    have h0:∀x k bg d m,k<=(aj fs x).size->bg.length=4->lW d m->(aX fs 0 x k bg d).2.1.length=4/\dy fs (aX fs 0 x k bg d).2.1<=dy fs bg/\∃m',lW (aX fs 0 x k bg d).2.2 m'/\m'+dy fs (aX fs 0 x k bg d).2.1<=m+((aj fs x).size-k)+dy fs bg:=by
      intro x k bg d m hk hl hB;exact⟨hl,Nat.le_refl _,m,hB,by simp only[aX];omega⟩
    exact⟨h0,second 0 h0⟩
  | succ f ih =>
    have h1:∀x k bg d m,k<=(aj fs x).size->bg.length=4->lW d m->(aX fs (f+1) x k bg d).2.1.length=4/\dy fs (aX fs (f+1) x k bg d).2.1<=dy fs bg/\∃m',lW (aX fs (f+1) x k bg d).2.2 m'/\m'+dy fs (aX fs (f+1) x k bg d).2.1<=m+((aj fs x).size-k)+dy fs bg:=by
      intro x k bg d m hk hl hB
      cases hw:aG (av (aj fs x) k).1 with
      | true =>
        have st:=zy fs f ih.2 x k bg d m hk hl hB hw;obtain⟨⟨s1,s2,m1,s3,s4⟩,s5,s6⟩:=st
        cases h2:((eW fs f x k bg d).1.1.1==0) with
        | true =>
          rw[wl fs f x k bg d hw h2];obtain⟨r1,r2,m2,r3,r4⟩:=ih.1 x (eW fs f x k bg d).2 (eW fs f x k bg d).1.2.1 (eW fs f x k bg d).1.2.2 m1 s6 s1 s3;exact⟨r1,by omega,m2,r3,by omega⟩
        | false =>
          rw[mO fs f x k bg d hw h2];exact⟨s1,s2,m1,s3,by omega⟩
      | false =>
        by_cases h2:(av (aj fs x) k).1.fin=true/\jb d=false
        · rw[xf fs f x k bg d hw h2.1 h2.2];exact⟨hl,Nat.le_refl _,m,hB,by simp only;omega⟩
        · rw[ut fs f x k bg d hw h2];exact⟨hl,Nat.le_refl _,m,hB,by simp only;omega⟩
    exact⟨h1,second (f+1) h1⟩
theorem uW(d:ByteArray)(k:Nat)(hd:d.size<=1024):(aQ d k).1.text.size<=1024:=by
  unfold aQ;generalize d.size-k+1=f
  induction f generalizing k with
  | zero=>simp[bQ,ByteArray.size]
  | succ f ih =>
    rw[bQ]
    split
    · split
      · simp[ByteArray.size]
      · exact ih _
    · split
      · simp[ByteArray.size]
      · exact oo d k hd
theorem pD(d:ByteArray)(k:Nat)(hd:d.size<=1024):(av d k).1.text.size<=1024:=by
  unfold av;generalize d.size-k+1=f
  induction f generalizing k with
  | zero=>simp[dg,ByteArray.size]
  | succ f ih =>
    rw[dg]
    split
    · split
      · exact ih _
      · exact uW d _ hd
    · exact oo d k hd
theorem Ay(d:Db)(x:ByteArray)(p:Pl):(aV d x p).2.proof=d.proof∨(aV d x p).2.proof=[]∨(aV d x p).2.proof=d.proof++[(x,p)]:=by
 unfold aV
 split
 ·left
  unfold ay
  split
  ·rfl
  ·split
   ·split
    ·rfl
    ·unfold cv;split <;> rfl
   ·split
    ·split <;> rfl
    ·split
     ·rfl
     ·split
      ·rfl
      ·split
       ·rfl
       ·unfold bH
        repeat' split
        all_goals rfl
 ·split
  ·left;unfold aJ
   repeat' split
   all_goals rfl
  ·split
   ·unfold kR
    split
    ·left;rfl
    ·split
     ·left;rfl
     ·right;left;rfl
   ·split
    ·left;unfold bY;split <;> rfl
    ·split
     ·left;rfl
     ·split
      ·right;right;rfl
      ·split
       ·left;rfl
       ·left;rfl
theorem yU(d:Db)(x:ByteArray)(p:Pl):(aV d x p).2.sts=d.sts∨(∃y∈d.rbl,(aV d x p).2.sts=jk d.sts y)∨((aV d x p).2.sts=d.sts++[⟨d.kind,d.label,d.symbols,d.proof,p,0⟩]/\0<d.symbols.length):=by
 unfold aV
 split
 ·unfold ay
  split
  ·left;rfl
  ·split
   ·split
    ·left;rfl
    ·unfold cv
     split
     ·left;rfl
     ·next y hy=>right;left;exact⟨y,List.mem_of_getLast? hy,rfl⟩
   ·split
    ·split <;> (left;rfl)
    ·split
     ·left;rfl
     ·split
      ·left;rfl
      ·split
       ·left;rfl
       ·left;unfold bH
        repeat' split
        all_goals rfl
 ·split
  ·left;unfold aJ
   repeat' split
   all_goals rfl
  ·split
   ·unfold kR
    split
    ·left;rfl
    ·next hl =>
     have hpos:0<d.symbols.length:=by
      unfold ln at hl
      split at hl <;> omega
     split
     ·left;rfl
     ·unfold bu
      split
      ·left;rfl
      ·split
       ·left;rfl
       ·right;right
        refine⟨?_,hpos⟩;unfold mL
        split <;> rfl
   ·split
    ·left;unfold bY;split <;> rfl
    ·split
     ·left;rfl
     ·split
      ·left;rfl
      ·split
       ·left;rfl
       ·left;rfl
theorem GJ(d:Db)(x:ByteArray)(p:Pl):(aV d x p).2.rbl=d.rbl∨(aV d x p).2.rbl=d.rbl.dropLast∨(aV d x p).2.rbl=d.rbl++[d.sts.length]:=by
 unfold aV
 split
 ·unfold ay
  split
  ·right;right;rfl
  ·split
   ·split
    ·left;rfl
    ·unfold cv
     split
     ·left;rfl
     ·right;left;rfl
   ·split
    ·split <;> (left;rfl)
    ·split
     ·left;rfl
     ·split
      ·left;rfl
      ·split
       ·left;rfl
       ·left;unfold bH
        repeat' split
        all_goals rfl
 ·left
  split
  ·unfold aJ
   repeat' split
   all_goals rfl
  ·split
   ·unfold kR
    split
    ·rfl
    ·split
     ·rfl
     ·unfold bu
      split
      ·rfl
      ·split
       ·rfl
       ·unfold mL;split <;> rfl
   ·split
    ·unfold bY;split <;> rfl
    ·split
     ·rfl
     ·split
      ·rfl
      ·split <;> rfl
structure Lw(S:List St)(d:Db):Prop where
 pre:∃m,d.sts=S++m
 rbl:∀y∈d.rbl,S.length<=y
theorem AQ(S m:List St)(y:Nat)(h:S.length<=y):∃m',jk (S++m) y=S++m':=by
 refine⟨(jk (S++m) y).drop S.length,?_⟩
 have e:(jk (S++m) y).take S.length=S:=by
  apply List.ext_getElem?
  intro i;rw[List.getElem?_take]
  split
  ·next hi =>
   unfold jk eJ;rw[List.getElem?_mapIdx,List.getElem?_append_left hi,List.getElem?_eq_getElem hi];rw[Option.map_some,if_neg (by omega)]
  ·rw[List.getElem?_eq_none];omega
 conv=>lhs;rw[<-List.take_append_drop S.length (jk (S++m) y),e]
theorem Lw.take{S:List St}{d:Db}(h:Lw S d)(x:ByteArray)(p:Pl):Lw S (aV d x p).2:=by
 obtain⟨m,hm⟩:=h.pre;refine⟨?_,?_⟩
 ·rcases yU d x p with e | ⟨y,hy,e⟩ | ⟨e,_⟩
  ·exact⟨m,by rw[e,hm]⟩
  ·rw[e,hm];exact AQ S m y (h.rbl y hy)
  ·exact⟨m++[_],by rw[e,hm,List.append_assoc]⟩
 ·rcases GJ d x p with e | e | e
  ·rw[e];exact h.rbl
  ·rw[e];intro y hy;exact h.rbl y (List.dropLast_subset _ hy)
  ·rw[e]
   intro y hy
   rcases List.mem_append.1 hy with hy | hy
   ·exact h.rbl y hy
   ·rw[List.mem_singleton.1 hy,hm,List.length_append];omega
theorem Lw.begin{d:Db}{m:Nat}(h:lW d m)(ho:jb d=false):Lw d.sts d:=by
 refine⟨⟨[],by simp⟩,fun y hy=>?_⟩;have hs:=h.same
 have hb:d.blocks.length=0:=by
  unfold jb at ho;simp only[Bool.or_eq_false_iff,decide_eq_false_iff_not]at ho;omega
 rw[hb]at hs;rw[List.eq_nil_of_length_eq_zero hs]at hy
 cases hy
structure Rw where
  label:ByteArray
  verdict:Int
  why:Int
  at_:Pl
def lu(r:Rw):List Value:=[.string r.label,.int .i64 r.verdict,.int .i64 r.why,.string r.at_.file,.int .i64 r.at_.line,.int .i64 r.at_.col]
def jt(l:List Rw):List Value:=l.flatMap lu
def jD:Pl:=⟨⟨#[]⟩,0,0⟩
def nZ:Rw:=⟨⟨#[]⟩,0,0,jD⟩
theorem LB:(Tryz.prog.info? 38).map (fun i=>(i.zero,i.size,i.bytes))=some (some (.agg #[.string ⟨#[]⟩,.int .i64 0,.int .i64 0,.string ⟨#[]⟩,.int .i64 0,.int .i64 0]),6,64):=by kernel_rfl
theorem yj(l:List Rw):(jt l).length=l.length*6:=by
  induction l with
  | nil=>rfl
  | cons x r ih=>have e:jt (x :: r)=lu x++jt r:=rfl
                   rw[e,List.length_append,ih];simp[lu];omega
theorem Cl(l:List Rw)(k:Nat)(hk:k<l.length)(j:Nat)(hj:j<6):(jt l)[k*6+j]?=(lu l[k])[j]?:=by
  induction l generalizing k with
  | nil=>simp at hk
  | cons s r ih =>
    have e:jt (s :: r)=lu s++jt r:=rfl;rw[e]
    cases k with
    | zero=>rw[List.getElem?_append_left (by simp[lu];omega)];simp
    | succ k =>
      rw[List.getElem?_append_right (by simp[lu];omega)];have e2:(k+1)*6+j-(lu s).length=k*6+j:=by simp[lu];omega
      rw[e2,ih k (by simpa using hk)];rfl
def Gs(p:Pl):Prop:=-1000000000<=p.line/\p.line<=1000000000
def nP(w:World):Option Nat->List Rw->Prop
 | none,L=>L=[]
 | some g,L=>0<L.length/\w.heap[g]?=some (.cells (jt L).toArray 38 (0,0))
theorem nP.kept{w w':World}{o:Option Nat}{L:List Rw}{S:List Nat}(h:nP w o L)(k:ab S w w')(hS:∀g,o=some g->g∉S):nP w' o L:=by
 cases o with
 | none=>exact h
 | some g=>exact⟨h.1,k.get h.2 (hS g rfl)⟩
theorem nP.still{w w':World}{o:Option Nat}{L:List Rw}(h:nP w o L)(k:ab [] w w'):nP w' o L:=h.kept k (by simp)
theorem nP.lt{w:World}{o:Option Nat}{L:List Rw}(h:nP w o L)(g:Nat)(e:o=some g):g<w.heap.size:=by
 subst e;exact ae h.2
structure LJ(L:List Rw):Prop where
 len:L.length<=100000
 line:∀r∈L,Gs r.at_
def na(w:World)(x:Nat)(fs:Fs)(rep:Bool)(a b c:Value):Prop:=bm w x 80 fs [.bool rep,a,b,c]
def IZ:Value:=.slice none 0 0
def lT(w:World)(x:Nat)(fs:Fs):Prop:=na w x fs false IZ IZ IZ
def bW(w:World)(x:Nat)(fs:Fs):Prop:=∃rep a b c,na w x fs rep a b c
theorem lT.anyR{w:World}{x:Nat}{fs:Fs}(h:lT w x fs):bW w x fs:=⟨_,_,_,_,h⟩
theorem na.anyR{w:World}{x:Nat}{fs:Fs}{rep:Bool}{a b c:Value}(h:na w x fs rep a b c):bW w x fs:=⟨_,_,_,_,h⟩
theorem lT.kept{w w':World}{x:Nat}{fs:Fs}{S:List Nat}(h:lT w x fs)(k:ab S w w')(hx:x∉S):lT w' x fs:=bm.kept h k hx
theorem bW.kept{w w':World}{x:Nat}{fs:Fs}{S:List Nat}(h:bW w x fs)(k:ab S w w')(hx:x∉S):bW w' x fs:=by
 obtain⟨r,a,b,c,h⟩:=h;exact⟨r,a,b,c,bm.kept h k hx⟩
theorem bW.lt{w:World}{x:Nat}{fs:Fs}(h:bW w x fs):x<w.heap.size:=by
 obtain⟨r,a,b,c,h⟩:=h;exact bm.lt h
theorem na.cells{w:World}{x:Nat}{fs:Fs}{rep:Bool}{a b c:Value}(h:na w x fs rep a b c) :
  w.cell? ⟨x,9,none⟩=some (.bool rep)/\w.cell? ⟨x,10,none⟩=some a/\w.cell? ⟨x,11,none⟩=some b/\w.cell? ⟨x,12,none⟩=some c:=by
 refine⟨?_,?_,?_,?_⟩ <;> (rw[aa h.1];rfl)
def zf(w:World)(x:Nat)(rep:Bool)(a b c:Value):World:=(((w.setCell ⟨x,9,none⟩ (.bool rep)).setCell ⟨x,10,none⟩ a).setCell ⟨x,11,none⟩ b).setCell ⟨x,12,none⟩ c
theorem na.turn{w:World}{x:Nat}{fs:Fs}{rep:Bool}{a b c:Value}(h:na w x fs rep a b c)(rep':Bool)(a' b' c':Value):na (zf w x rep' a' b' c') x fs rep' a' b' c':=by
 refine⟨?_,h.2⟩;unfold zf;rw[ah (ah (ah (ah h.1 9 (.bool rep')) 10 a') 11 b') 12 c'];rfl
theorem Bl{S:List Nat}{w w':World}(h:ab S w w'){x:Nat}(hx:x∈S∨w.heap.size<=x)(rep:Bool)(a b c:Value):ab S w (zf w' x rep a b c) :=
 (((h.setCell hx _).setCell hx _).setCell hx _).setCell hx _
theorem IQ(w:World):Calls Tryz.prog 27 #[] w fun e w'=>e=.returned (.pointer (some ⟨w.heap.size,0,none⟩))/\lT w' w.heap.size []/\ab [] w w':=by
 go_enter Tryz.func27,Tryz.ntmps27;go_wp2;go_ret;exact⟨rfl,⟨heap_alloc_new _ _,by simp⟩,(ab.refl _ _).alloc _⟩
theorem tK(x:Nat)(fs:Fs)(w:World)(h:bW w x fs) :
  Calls Tryz.prog 33 #[.pointer (some ⟨x,0,none⟩)] w fun e w'=>e=.returned (.tuple #[])/\lT w' x fs/\ab [x] w w':=by
 obtain⟨rep,a,b,c,h⟩:=h;obtain⟨c9,c10,c11,c12⟩:=h.cells;have hf:=bm.free h;have HT:=(show Hid _ from h.turn false (.slice none 0 0) (.slice none 0 0) (.slice none 0 0));unfold zf at HT;have hxw:=bm.lt h;go_enter Tryz.func33,Tryz.ntmps33;go_wp2;go_end0;exact⟨rfl,HT.out,Bl (ab.refl _ _) (Or.inl (by simp)) _ _ _ _⟩
theorem Gh(x:Nat)(n d:ByteArray)(fs:Fs)(w:World)(h:bW w x fs)(hn:n.size<=1073741824)(hd:d.size<=4294967296) :
  Calls Tryz.prog 14 #[.pointer (some ⟨x,0,none⟩),.string n,.string d] w fun e w'=>e=.returned (.int .i64 (gq fs n d).1)/\bW w' x (gq fs n d).2/\((gq fs n d).1=0->lT w' x (gq fs n d).2)/\ab [x] w w':=by
 obtain⟨rep,a,b,c,h⟩:=h;have PF:=JD x 80 n d fs [.bool rep,a,b,c] w h hn hd;have HPF:=(show Hid _ from PF);clear PF;generalize gq fs n d=pf at *;obtain⟨e0,fs'⟩:=pf;simp only at HPF ⊢
 cases he:(e0==0)
 ·go_enter Tryz.func14,Tryz.ntmps14
  go_wp2_with fail;refine Calls.mono HPF.out ?_;rintro e w2 ⟨rfl,h2,hk2⟩;go_wp2;go_ret;exact⟨rfl,⟨rep,a,b,c,h2⟩,fun e=>by subst e;simp at he,hk2⟩
 ·go_enter Tryz.func14,Tryz.ntmps14
  go_wp2_with fail;refine Calls.mono HPF.out ?_;rintro e w2 ⟨rfl,h2,hk2⟩;go_wp2_with fail;refine(tK x fs' w2 ⟨rep,a,b,c,h2⟩).mono ?_;rintro e w3 ⟨rfl,h3,hk3⟩;go_wp2;go_ret;exact⟨rfl,h3.anyR,fun _=>h3,hk2.trans hk3⟩
theorem lH(t n:ByteArray)(r l c:Int)(f:Bool)(w:World) :
  Calls Tryz.prog 159 #[.agg #[.string t,.int .i64 r,.bool f,.string n,.int .i64 l,.int .i64 c]] w fun e w'=>e=.returned (.agg #[.int .i64 (if f=true then 7 else r),.string n,.int .i64 l,.int .i64 c])/\ab [] w w':=by
 cases f
 ·go_enter Tryz.func159,Tryz.ntmps159
  go_wp2;exact bodyPost_ret (v:=.agg #[.int .i64 r,.string n,.int .i64 l,.int .i64 c]) (by simp[results,Tryz.results159,go_sem]) rfl ⟨rfl,((ab.refl _ _).alloc _).alloc _⟩
 ·go_enter Tryz.func159,Tryz.ntmps159
  go_wp2;exact bodyPost_ret (v:=.agg #[.int .i64 7,.string n,.int .i64 l,.int .i64 c]) (by simp[results,Tryz.results159,go_sem]) rfl ⟨rfl,((ab.refl _ _).alloc _).alloc _⟩
def dq(v:Nat)(bg:List Bool):List Value:=.pointer (some ⟨v,0,none⟩) :: bg.map Value.bool
theorem il(v:Nat)(bg:List Bool)(h:bg.length=4):(dq v bg).length=5:=by simp[dq,h]
theorem aN.pre{w:World}{b t:Nat}{pre post:List Value}{d:Db}{H:Nat->Hd}(h:aN w b t pre post d H)(i:Nat)(hi:i<pre.length)(u:Value) :
  aN (w.setCell ⟨b,i,none⟩ u) b t (pre.set i u) post d H/\aw b w H (w.setCell ⟨b,i,none⟩ u) H:=by
 refine⟨⟨?_,?_,h.apart,h.off⟩,(dX.refl _ _).setCell (Or.inl (Or.inl rfl)) _,fun _ hk=>Or.inl hk⟩
 ·rw[ah h.blk,List.setIfInBounds_toArray,List.set_append_left _ _ hi]
 ·intro j
  refine(h.own j).moved (fun k hk=>Below.heap_setCell _ _ _ _ ?_);rintro rfl;exact h.off j hk
theorem aN.preCell{w:World}{b t:Nat}{pre post:List Value}{d:Db}{H:Nat->Hd}(h:aN w b t pre post d H)(i:Nat)(hi:i<pre.length):w.cell? ⟨b,i,none⟩=pre[i]?:=by
 rw[aa h.blk];simp[List.getElem?_append_left hi]
def eQ(b sp:Nat)(w:World)(H:Nat->Hd)(w':World)(H':Nat->Hd):Prop :=
 dX (fun k=>k=b∨k=sp∨fk H k) w w'/\∀k,fk H' k->fk H k∨w.heap.size<=k
theorem aw.moved{b:Nat}{w w':World}{H H':Nat->Hd}(sp:Nat)(t:aw b w H w' H'):eQ b sp w H w' H' :=
 ⟨⟨t.1.os,t.1.tape,t.1.output,t.1.size,fun k hk hn=>t.1.block k hk (fun e=>hn (e.elim Or.inl (fun e=>Or.inr (Or.inr e))))⟩,t.2⟩
theorem eQ.trans{b sp:Nat}{w0 w1 w2:World}{H0 H1 H2:Nat->Hd}(a:eQ b sp w0 H0 w1 H1)(c:eQ b sp w1 H1 w2 H2):eQ b sp w0 H0 w2 H2:=by
 refine⟨⟨c.1.os.trans a.1.os,c.1.tape.trans a.1.tape,c.1.output.trans a.1.output,Nat.le_trans a.1.size c.1.size,?_⟩,?_⟩
 ·intro k hk hn
  rw[<-a.1.block k hk hn];refine c.1.block k (Nat.lt_of_lt_of_le hk a.1.size) ?_;rintro (e | e | hm)
  ·exact hn (Or.inl e)
  ·exact hn (Or.inr (Or.inl e))
  ·rcases a.2 k hm with h | h
   ·exact hn (Or.inr (Or.inr h))
   ·omega
 ·intro k hk
  rcases c.2 k hk with h | h
  ·exact a.2 k h
  ·exact Or.inr (Nat.le_trans a.1.size h)
theorem eQ.refl(b sp:Nat)(w:World)(H:Nat->Hd):eQ b sp w H w H:=⟨dX.refl _ _,fun _ hk=>Or.inl hk⟩
theorem eQ.still{b sp:Nat}{w0 w1 w2:World}{H0 H1:Nat->Hd}(a:eQ b sp w0 H0 w1 H1)(c:ab [] w1 w2):eQ b sp w0 H0 w2 H1 :=
 a.trans ⟨c.toP (by simp),fun _ hk=>Or.inl hk⟩
theorem eQ.first{b sp:Nat}{w0 w1 w2:World}{H0 H1:Nat->Hd}(c:ab [] w0 w1)(a:eQ b sp w1 H0 w2 H1):eQ b sp w0 H0 w2 H1 :=
 eQ.trans ⟨c.toP (by simp),fun _ hk=>Or.inl hk⟩ a
theorem eQ.scan{b sp:Nat}{w0 w1 w2:World}{H0 H1:Nat->Hd}(a:eQ b sp w0 H0 w1 H1)(c:ab [sp] w1 w2):eQ b sp w0 H0 w2 H1 :=
 a.trans ⟨c.toP (by intro k hk _;simp at hk;exact Or.inr (Or.inl hk)),fun _ hk=>Or.inl hk⟩
theorem eQ.beyond{b sp:Nat}{w wr w':World}{H H1:Nat->Hd}{S:List Nat}(T:eQ b sp w H wr H1)(k:ab S wr w')(hS:∀x,x∈S->w.heap.size<=x):eQ b sp w H w' H1 :=
 ⟨⟨k.os.trans T.1.os,k.tape.trans T.1.tape,k.output.trans T.1.output,Nat.le_trans T.1.size k.size,fun i hi hn=>by
  rw[<-T.1.block i hi hn];exact k.block i (Nat.lt_of_lt_of_le hi T.1.size) (fun hm=>by have:=hS i hm;omega)⟩,T.2⟩
theorem eQ.fresh{b sp:Nat}{w w2:World}{H H2:Nat->Hd}(T:eQ b sp w H w2 H2)(F:Nat)(h1:F<w.heap.size)(h2:¬fk H F):¬fk H2 F:=by
 intro hm
 rcases T.2 F hm with h | h
 ·exact h2 h
 ·omega
theorem aw.fresh{b:Nat}{w w2:World}{H H2:Nat->Hd}(T:aw b w H w2 H2)(F:Nat)(h1:F<w.heap.size)(h2:¬fk H F):¬fk H2 F:=by
 intro hm
 rcases T.2 F hm with h | h
 ·exact h2 h
 ·omega
theorem ie{w:World}{r:Nat}(a0 a1 a2 a3:Value):ab [r] w ((((w.setCell ⟨r,0,none⟩ a0).setCell ⟨r,1,none⟩ a1).setCell ⟨r,2,none⟩ a2).setCell ⟨r,3,none⟩ a3) :=
 ((((ab.refl _ _).setCell (Or.inl (by simp)) _).setCell (Or.inl (by simp)) _).setCell (Or.inl (by simp)) _).setCell (Or.inl (by simp)) _
theorem Ak{w:World}{r:Nat}(a0 a1 a2 a3 a4 a5:Value):ab [r] w ((((((w.setCell ⟨r,0,none⟩ a0).setCell ⟨r,1,none⟩ a1).setCell ⟨r,2,none⟩ a2).setCell ⟨r,3,none⟩ a3).setCell ⟨r,4,none⟩ a4).setCell ⟨r,5,none⟩ a5) :=
 ((((((ab.refl _ _).setCell (Or.inl (by simp)) _).setCell (Or.inl (by simp)) _).setCell (Or.inl (by simp)) _).setCell (Or.inl (by simp)) _).setCell (Or.inl (by simp)) _).setCell (Or.inl (by simp)) _
def aZ:Array Value:=#[.int .i64 0,.string ⟨#[]⟩,.int .i64 0,.int .i64 0]
theorem bR{w:World}{r:Nat}(h:w.heap[r]?=some (.cells aZ 87 (0,0))) :
  w.cell? ⟨r,0,none⟩=some (.int .i64 0)/\w.cell? ⟨r,1,none⟩=some (.string ⟨#[]⟩)/\w.cell? ⟨r,2,none⟩=some (.int .i64 0)/\w.cell? ⟨r,3,none⟩=some (.int .i64 0):=by
 refine⟨?_,?_,?_,?_⟩ <;> (rw[aa h];rfl)
theorem lX{w w2:World}{b t F:Nat}{pre post:List Value}{d:Db}{H H2:Nat->Hd}(D:aN w2 b t pre post d H2)(T:aw b w H w2 H2)(h1:w.heap.size<=F)(h2:b≠F)(h3:¬fk H2 F)(a0 a1 a2 a3:Value) :
  aN ((((w2.setCell ⟨F,0,none⟩ a0).setCell ⟨F,1,none⟩ a1).setCell ⟨F,2,none⟩ a2).setCell ⟨F,3,none⟩ a3) b t pre post d H2 /\
  aw b w H ((((w2.setCell ⟨F,0,none⟩ a0).setCell ⟨F,1,none⟩ a1).setCell ⟨F,2,none⟩ a2).setCell ⟨F,3,none⟩ a3) H2:=by
 refine⟨D.kept (ie _ _ _ _) (by simpa using h2) (fun x hx=>by simp;rintro rfl;exact h3 hx),?_,T.2⟩;exact(((T.1.setCell (Or.inr h1) _).setCell (Or.inr h1) _).setCell (Or.inr h1) _).setCell (Or.inr h1) _
set_option maxRecDepth 100000 in
theorem qZ(b t:Nat)(v:Nat)(bg:List Bool)(hbg:bg.length=4)(d:Db)(H:Nat->Hd)(sp:Value)(x n:ByteArray)(l c:Int)(w:World)(h:aN w b t (dq v bg) [] d H)(hs:eS d 10000000)(hx:x.size<=1073741824)(hi:yF d 100000000)
  (hn:(x.toList == [36,91])=false) :
  Calls Tryz.prog 157 #[.pointer (some ⟨b,0,none⟩),sp,.agg #[.string x,.int .i64 0,.bool false,.string n,.int .i64 l,.int .i64 c]] w fun e w' =>
   e=.returned (gx (if((aV d x ⟨n,l,c⟩).1==0)=true then cI else((aV d x ⟨n,l,c⟩).1,⟨n,l,c⟩))) /\
   ∃H',aN w' b t (dq v bg) [] (aV d x ⟨n,l,c⟩).2 H'/\aw b w H w' H':=by
 have hbw:=h.lt;have TK:=fun(w':World) (h':aN w' b t (dq v bg) [] d H)=>GM b t 5 (dq v bg) [] d H x n l c w' h' (il v bg hbg) hs hx hi
 unfold fU at TK;have HTK:=(show Hid _ from TK);clear TK;generalize aV d x ⟨n,l,c⟩=td at *;obtain⟨r,d'⟩:=td;simp only at HTK;obtain⟨W,hW⟩:∃W,W=((w.alloc (.cells #[.string x,.int .i64 0,.bool false,.string n,.int .i64 l,.int .i64 c] 255)).alloc (.cells #[.int .i64 0,.string ⟨#[]⟩,.int .i64 0,.int .i64 0] 87)):=⟨_,rfl⟩
 have hK:ab [] w W:=by rw[hW];exact((ab.refl [] w).alloc _).alloc _
 have hD:aN W b t (dq v bg) [] d H:=h.still hK
 have hI:W.heap[w.heap.size]?=some (.cells #[.string x,.int .i64 0,.bool false,.string n,.int .i64 l,.int .i64 c] 255 (0,0)):=by
  rw[hW];exact((ab.refl [] _).alloc _).get (heap_alloc_new _ _) (by simp)
 have hF:W.heap[w.heap.size+1]?=some (.cells aZ 87 (0,0)):=by
  rw[hW];have:=heap_alloc_new (w.alloc (.cells #[.string x,.int .i64 0,.bool false,.string n,.int .i64 l,.int .i64 c] 255)) (.cells #[.int .i64 0,.string ⟨#[]⟩,.int .i64 0,.int .i64 0] 87);simpa [aZ] using this
 have HNO:Hid (∀k,w.heap.size<=k->¬(k=b∨fk H k)):=by
  rintro k hk (e | hm)
  ·omega
  ·have:=h.inlt hm;omega
 have HW:=(show Hid _ from hW.symm);clear hW h;have i0:W.cell? ⟨w.heap.size,0,none⟩=some (.string x):=by rw[aa hI];rfl
 have i3:W.cell? ⟨w.heap.size,3,none⟩=some (.string n):=by rw[aa hI];rfl
 have i4:W.cell? ⟨w.heap.size,4,none⟩=some (.int .i64 l):=by rw[aa hI];rfl
 have i5:W.cell? ⟨w.heap.size,5,none⟩=some (.int .i64 c):=by rw[aa hI];rfl
 have HAF:=(show Hid _ from fun(w2:World) (H2:Nat->Hd) (D2:aN w2 b t (dq v bg) [] d' H2) (T2:aw b W.drew H w2 H2) (a0 a1 a2 a3:Value) =>
  lX D2 ((T2.first (ab.refl [] W).drew).first hK) (F:=w.heap.size+1) (by omega) (by omega) (T2.fresh (w.heap.size+1) (by exact ae hF) (fun hm=>HNO.out (w.heap.size+1) (by omega) (Or.inr hm))) a0 a1 a2 a3)
 have HCE:=(show Hid _ from fun(w2:World) (H2:Nat->Hd) (T2:aw b W.drew H w2 H2)=>(show _/\_ from⟨T2.1.get (by exact hI) (HNO.out _ (Nat.le_refl _)),T2.1.get (by exact hF) (HNO.out _ (by omega))⟩))
 have CE:∀(w2:World) (H2:Nat->Hd) (_:aw b W.drew H w2 H2),w2.cell? ⟨w.heap.size,0,none⟩=some (.string x)/\w2.cell? ⟨w.heap.size,3,none⟩=some (.string n)/\w2.cell? ⟨w.heap.size,4,none⟩=some (.int .i64 l)/\w2.cell? ⟨w.heap.size,5,none⟩=some (.int .i64 c):=by
  intro w2 H2 T2;have hI2:=(HCE.out w2 H2 T2).1;refine⟨?_,?_,?_,?_⟩ <;> (rw[aa hI2];rfl)
 have HCC:=(show Hid _ from CE);clear CE;go_enter Tryz.func157,Tryz.ntmps157
 go_upto_region 1 with fail
 rw[HW.out]
 go_upto_region 3 with fail
 cases hr:(r==0)
 ·have hr':(r != 0)=true:=by simp[bne,hr]
  go_region_held3 (fun w'=>w'.cell? ⟨w.heap.size,0,none⟩=some (.string x)/\w'.cell? ⟨w.heap.size,3,none⟩=some (.string n)/\w'.cell? ⟨w.heap.size,4,none⟩=some (.int .i64 l)/\w'.cell? ⟨w.heap.size,5,none⟩=some (.int .i64 c)) (go_keep) (first | (go_at_call 206;refine(HTK.out _ (by exact hD.still (ab.refl [] _).drew)).mono ?_;rintro e w2 ⟨rfl,H2,D2,T2⟩;obtain⟨r0,r3,r4,r5⟩:=HCC.out w2 H2 T2))
  all_goals
   have hF2:=(HCE.out w2 H2 T2).2;have HA':=(show Hid _ from HAF.out w2 H2 D2 T2);obtain⟨j0,j1,j2,j3⟩:=bR hF2;have y:=ak hF2;go_wp2
   exact bodyPost_ret (v:=.agg #[.int .i64 r,.string n,.int .i64 l,.int .i64 c]) (by simp[results,Tryz.results157,go_sem,j0,j1,j2,j3]) rfl
    ⟨rfl,H2,(HA'.out _ _ _ _).1,(HA'.out _ _ _ _).2⟩
 ·have hr':(r != 0)=false:=by simp[bne,hr]
  go_region_held3 (fun w'=>w'.cell? ⟨w.heap.size,0,none⟩=some (.string x)/\w'.cell? ⟨w.heap.size,3,none⟩=some (.string n)/\w'.cell? ⟨w.heap.size,4,none⟩=some (.int .i64 l)/\w'.cell? ⟨w.heap.size,5,none⟩=some (.int .i64 c)) (go_keep) (first | (go_at_call 206;refine(HTK.out _ (by exact hD.still (ab.refl [] _).drew)).mono ?_;rintro e w2 ⟨rfl,H2,D2,T2⟩;obtain⟨r0,r3,r4,r5⟩:=HCC.out w2 H2 T2))
  all_goals
   have hF2:=(HCE.out w2 H2 T2).2;have HA':=(show Hid _ from HAF.out w2 H2 D2 T2);obtain⟨j0,j1,j2,j3⟩:=bR hF2;have y:=ak hF2;go_wp2
   exact bodyPost_ret (v:=.agg #[.int .i64 0,.string ⟨#[]⟩,.int .i64 0,.int .i64 0]) (by simp[results,Tryz.results157,go_sem,j0,j1,j2,j3]) rfl
    ⟨rfl,H2,(HA'.out _ _ _ _).1,(HA'.out _ _ _ _).2⟩
end Go.Proofs.YtpddjjabfbfifaaGreat
