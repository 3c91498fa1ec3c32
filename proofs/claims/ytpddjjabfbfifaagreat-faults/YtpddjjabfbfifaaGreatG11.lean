import Derived.Deep.RegionHeld3
import Derived.Test.YtpddjjabfbfifaaGreatG10
namespace Go.Proofs.YtpddjjabfbfifaaGreat
open Go.RowKit
set_option maxHeartbeats 40000000
def eF:Db:=⟨[],[],[],[],[],[],[],[],0,⟨#[]⟩,[],false,[]⟩
abbrev oG:=Int×Pl
def cK:oG:=(0,⟨⟨#[]⟩,0,0⟩)
def go(f:oG):Value:=.agg #[.int .i64 f.1,.string f.2.file,.int .i64 f.2.line,.int .i64 f.2.col]
def jz(n s:ByteArray)(p:Nat):Pl:=⟨n,aL s p,aW s p⟩
def gC(n s:ByteArray)(i:pH):oG:=(if i.fin=true then 7 else i.rule,jz n s i.pos)
abbrev Ik:=oG×List Bool×Db
def px(fs:Fs)(x z:Nat)(p:Pl)(d:Db):oG ⊕ (Nat×Nat) :=
  if je d=true then .inl (4,p)
  else if aG (av (aj fs x) z).1=false then .inl (gC (aC fs x) (aj fs x) (av (aj fs x) z).1)
  else if dw (av (aj fs x) z).1.text=true then .inl (5,jz (aC fs x) (aj fs x) (av (aj fs x) z).1.pos)
  else if bu fs (av (aj fs x) z).1.text<0 then .inl (6,jz (aC fs x) (aj fs x) (av (aj fs x) z).1.pos)
  else if aG (av (aj fs x) (av (aj fs x) z).2).1=false then .inl (gC (aC fs x) (aj fs x) (av (aj fs x) (av (aj fs x) z).2).1)
  else if((av (aj fs x) (av (aj fs x) z).2).1.text.toList == [36,93])=false then .inl (5,jz (aC fs x) (aj fs x) (av (aj fs x) (av (aj fs x) z).2).1.pos)
  else .inr ((bu fs (av (aj fs x) z).1.text).toNat,(av (aj fs x) (av (aj fs x) z).2).2)
def lB(rf:Nat->List Bool->Db->Ik)(fs:Fs)(x z:Nat)(p:Pl)(bg:List Bool)(d:Db):Ik×Nat :=
  match px fs x z p d with
  | .inl f=>((f,bg,d),z)
  | .inr (j,z')=>(rf j bg d,z')
def iI(rf:Nat->List Bool->Db->Ik)(fs:Fs)(x z:Nat)(t:ByteArray)(p:Pl)(bg:List Bool)(d:Db):Ik×Nat :=
  if(t.toList == [36,91])=true then lB rf fs x z p bg d
  else((if((aV d t p).1==0)=true then cK else((aV d t p).1,p),bg,(aV d t p).2),z)
def aX(fs:Fs):Nat->Nat->Nat->List Bool->Db->Ik
  | 0,_,_,bg,d=>(cK,bg,d)
  | f+1,x,k,bg,d =>
    if aG (av (aj fs x) k).1=true then
      (if((iI (fun j bg d=>if bg.getD j true=true then(cK,bg,d) else aX fs f j 0 (bg.set j true) d) fs x (av (aj fs x) k).2 (av (aj fs x) k).1.text (jz (aC fs x) (aj fs x) (av (aj fs x) k).1.pos) bg d).1.1.1==0)=true
       then aX fs f x (iI (fun j bg d=>if bg.getD j true=true then(cK,bg,d) else aX fs f j 0 (bg.set j true) d) fs x (av (aj fs x) k).2 (av (aj fs x) k).1.text (jz (aC fs x) (aj fs x) (av (aj fs x) k).1.pos) bg d).2
          (iI (fun j bg d=>if bg.getD j true=true then(cK,bg,d) else aX fs f j 0 (bg.set j true) d) fs x (av (aj fs x) k).2 (av (aj fs x) k).1.text (jz (aC fs x) (aj fs x) (av (aj fs x) k).1.pos) bg d).1.2.1
          (iI (fun j bg d=>if bg.getD j true=true then(cK,bg,d) else aX fs f j 0 (bg.set j true) d) fs x (av (aj fs x) k).2 (av (aj fs x) k).1.text (jz (aC fs x) (aj fs x) (av (aj fs x) k).1.pos) bg d).1.2.2
       else(iI (fun j bg d=>if bg.getD j true=true then(cK,bg,d) else aX fs f j 0 (bg.set j true) d) fs x (av (aj fs x) k).2 (av (aj fs x) k).1.text (jz (aC fs x) (aj fs x) (av (aj fs x) k).1.pos) bg d).1)
    else if(av (aj fs x) k).1.fin=true/\je d=false then(cK,bg,d) else(gC (aC fs x) (aj fs x) (av (aj fs x) k).1,bg,d)
def b7(fs:Fs)(f:Nat)(j:Nat)(bg:List Bool)(d:Db):Ik :=
  if bg.getD j true=true then(cK,bg,d) else aX fs f j 0 (bg.set j true) d
def eW(fs:Fs)(f x k:Nat)(bg:List Bool)(d:Db):Ik×Nat :=
  iI (b7 fs f) fs x (av (aj fs x) k).2 (av (aj fs x) k).1.text (jz (aC fs x) (aj fs x) (av (aj fs x) k).1.pos) bg d
theorem v6(fs:Fs)(f x k:Nat)(bg:List Bool)(d:Db)(h1:aG (av (aj fs x) k).1=true)(h2:((eW fs f x k bg d).1.1.1==0)=true) :
    aX fs (f+1) x k bg d=aX fs f x (eW fs f x k bg d).2 (eW fs f x k bg d).1.2.1 (eW fs f x k bg d).1.2.2:=by
  rw[aX,if_pos h1];exact if_pos h2
theorem m8(fs:Fs)(f x k:Nat)(bg:List Bool)(d:Db)(h1:aG (av (aj fs x) k).1=true)(h2:((eW fs f x k bg d).1.1.1==0)=false) :
    aX fs (f+1) x k bg d=(eW fs f x k bg d).1:=by
  rw[aX,if_pos h1];exact if_neg (fun hh=>Bool.noConfusion (h2.symm.trans hh))
theorem wG(fs:Fs)(f x k:Nat)(bg:List Bool)(d:Db)(h1:aG (av (aj fs x) k).1=false)(h2:(av (aj fs x) k).1.fin=true)(h3:je d=false) :
    aX fs (f+1) x k bg d=(cK,bg,d):=by
  rw[aX,if_neg (by simp[h1]),if_pos ⟨h2,h3⟩]
theorem uh(fs:Fs)(f x k:Nat)(bg:List Bool)(d:Db)(h1:aG (av (aj fs x) k).1=false)(h2:¬((av (aj fs x) k).1.fin=true/\je d=false)) :
    aX fs (f+1) x k bg d=(gC (aC fs x) (aj fs x) (av (aj fs x) k).1,bg,d):=by
  rw[aX,if_neg (by simp[h1]),if_neg h2]
theorem i9{i:pH}(h:aG i=false)(hf:i.fin=false):(i.rule==0)=false:=by
  simp[aG,hf]at h;simpa using h
structure lW(d:Db)(m:Nat):Prop where
  labels:d.labels.length<=m
  constants:d.constants.length+d.symbols.length<=m
  variables:d.variables.length+d.symbols.length<=m
  active:d.active.length+d.symbols.length<=m
  typed:d.typed.length+d.symbols.length<=m
  blocks:d.blocks.length<=m
  sts:d.sts.length<=m
  proof:d.proof.length<=m
  inner:∀p,p∈d.blocks->p.1<=m/\p.2<=m
  same:d.rbl.length=d.blocks.length
  recs:∀x,x∈d.rbl->x<=d.sts.length
theorem lW.small{d:Db}{m N:Nat}(h:lW d m)(hN:m<=N):eR d N/\xS d N :=
  ⟨⟨by have:=h.labels;omega,by have:=h.constants;omega,by have:=h.variables;omega,by have:=h.active;omega,by have:=h.typed;omega,by have:=h.blocks;omega,by have:=h.sts;omega,by have:=h.blocks;have:=h.same;omega,by have:=h.constants;omega,by have:=h.proof;omega⟩,
   ⟨fun p hp=>by have:=h.inner p hp;omega,h.same,h.recs⟩⟩
theorem lW.mono{d:Db}{m m':Nat}(h:lW d m)(hm:m<=m'):lW d m' :=
  ⟨by have:=h.labels;omega,by have:=h.constants;omega,by have:=h.variables;omega,by have:=h.active;omega,by have:=h.typed;omega,by have:=h.blocks;omega,by have:=h.sts;omega,by have:=h.proof;omega,fun p hp=>by have:=h.inner p hp;omega,h.same,h.recs⟩
theorem lW.empty:lW eF 0:=by
  refine⟨?_,?_,?_,?_,?_,?_,?_,?_,?_,?_,?_⟩ <;> simp[eF]
theorem lW.plain{d:Db}{m:Nat}(h:lW d m)(k:Int)(l:ByteArray)(b:Bool):lW { d with kind:=k,label:=l,inProof:=b } m:=⟨h.labels,h.constants,h.variables,h.active,h.typed,h.blocks,h.sts,h.proof,h.inner,h.same,h.recs⟩
theorem tH(l:List St)(b:Nat):(jq l b).length=l.length:=jd l b l.length
theorem lW.declare{d:Db}{m:Nat}(h:lW d m)(p:Pl):lW { bt d p with kind:=0,label:=⟨#[]⟩,symbols:=[],inProof:=false,proof:=[] } (m+1):=by
  have e2:=h.constants;have e3:=h.variables;have e4:=h.active;have e5:=h.typed;have h':=h.mono (Nat.le_succ m);unfold bt
  split
  · exact⟨h'.labels,by simp;omega,by simp;omega,by simp;omega,by simp;omega,h'.blocks,h'.sts,by simp,h'.inner,h'.same,h'.recs⟩
  · split
    · have:=yS d.variables (d.symbols.take d.symbols.length)
      simp only[List.take_length]at this;exact⟨h'.labels,by simp[dO];omega,by simp[dO];omega,by simp[dO];omega,by simp[dO];omega,h'.blocks,h'.sts,by simp,h'.inner,h'.same,h'.recs⟩
    · unfold mD m9
      have:=h.sts
      split
      · next hc=>exact⟨h'.labels,by simp;omega,by simp;omega,by simp;omega,by simp;omega,h'.blocks,by simp;omega,by simp,h'.inner,h'.same,fun x hx=>by have:=h.recs x hx;simp;omega⟩
      · exact⟨h'.labels,by simp;omega,by simp;omega,by simp;omega,by simp;omega,h'.blocks,by simp;omega,by simp,h'.inner,h'.same,fun x hx=>by have:=h.recs x hx;simp;omega⟩
theorem lW.take{d:Db}{m:Nat}(h:lW d m)(x:ByteArray)(pl:Pl):lW (aV d x pl).2 (m+1):=by
  have h':=h.mono (Nat.le_succ m);have hk:=fun k=>h'.plain k d.label d.inProof
  have e1:=h.labels;have e2:=h.constants;have e3:=h.variables;have e4:=h.active;have e5:=h.typed;have e6:=h.blocks
  have hlab:lW (bH d x).2 (m+1):=by
    unfold bH
    split
    · exact h'
    · split
      · exact h'
      · split
        · exact h'
        · exact⟨by simp;omega,h'.constants,h'.variables,h'.active,h'.typed,h'.blocks,h'.sts,h'.proof,h'.inner,h'.same,h'.recs⟩
  have hkey:lW (aJ d x).2 (m+1):=by
    unfold aJ
    split
    · exact hk 2
    · split
      · exact hk 3
      · split
        · exact hk 4
        · split
          · exact hk 5
          · exact h'
  have hfst:lW (ay d x).2 (m+1):=by
    unfold ay
    split
    · refine⟨h'.labels,h'.constants,h'.variables,h'.active,h'.typed,by simp;omega,h'.sts,h'.proof,?_,by simp[h.same],?_⟩
      · intro p hp
        simp only[List.mem_append,List.mem_singleton]at hp
        rcases hp with hp | rfl
        · exact h'.inner p hp
        · simp only;omega
      · intro y hy
        simp only[List.mem_append,List.mem_singleton]at hy
        rcases hy with hy | rfl
        · exact h.recs y hy
        · exact Nat.le_refl _
    · split
      · split
        · exact h'
        · next p hp =>
          unfold cv
          have hne:d.rbl≠[]:=by
            intro e;have:=h.same;rw[e,pb hp]at this;simp at this
          obtain⟨y,hy⟩:∃y,d.rbl.getLast?=some y:=⟨_,List.getLast?_eq_some_getLast hne⟩
          rw[hy];refine⟨h'.labels,h'.constants,h'.variables,?_,?_,?_,?_,h'.proof,?_,?_,?_⟩
          · simp only[cQ,List.length_take];omega
          · simp only[cQ,List.length_take];omega
          · simp only[cQ,List.length_dropLast];omega
          · show(jq d.sts y).length<=_;rw[tH];exact h'.sts
          · intro q hq
            simp only[cQ]at hq;exact h'.inner q (List.dropLast_subset _ hq)
          · simp only[cQ,List.length_dropLast,h.same]
          · intro q hq
            show q<=(jq d.sts y).length
            rw[tH];exact h.recs q (List.dropLast_subset _ hq)
      · split
        · split
          · exact h'
          · exact hk 7
        · split
          · exact hk 8
          · split
            · exact hk 1
            · split
              · exact h'
              · exact hlab
  have hend:lW (kP d pl).2 (m+1):=by
    unfold kP
    split
    · exact h'
    · split
      · exact h'
      · exact h.declare pl
  unfold aV
  split
  · exact hfst
  · split
    · exact hkey
    · split
      · exact hend
      · split
        · unfold b8
          split
          · exact h'
          · exact h'.plain d.kind d.label true
        · split
          · exact h'
          · split
            · exact⟨h'.labels,h'.constants,h'.variables,h'.active,h'.typed,h'.blocks,h'.sts,by have:=h.proof;simp;omega,h'.inner,h'.same,h'.recs⟩
            · split
              · exact⟨h'.labels,by simp;omega,by simp;omega,by simp;omega,by simp;omega,h'.blocks,h'.sts,h'.proof,h'.inner,h'.same,h'.recs⟩
              · exact h'
def Iy(fs:Fs)(bg:List Bool)(j:Nat):Nat:=if bg.getD j true=true then 0 else(aj fs j).size+2
def dx(fs:Fs)(bg:List Bool):Nat:=Iy fs bg 0+Iy fs bg 1+Iy fs bg 2+Iy fs bg 3
theorem uR(fs:Fs)(bg:List Bool)(j:Nat)(hl:bg.length=4)(hb:bg.getD j true=false):dx fs (bg.set j true)+(aj fs j).size+2=dx fs bg:=by
  match bg,hl with
  | [a,b,c,d],_ =>
    match j with
    | 0=>simp at hb;subst hb;simp[dx,Iy];omega
    | 1=>simp at hb;subst hb;simp[dx,Iy];omega
    | 2=>simp at hb;subst hb;simp[dx,Iy];omega
    | 3=>simp at hb;subst hb;simp[dx,Iy];omega
    | j+4=>simp at hb
def LD(fs:Fs)(bg:List Bool)(m:Nat)(r:Ik):Prop :=
  r.2.1.length=4/\dx fs r.2.1<=dx fs bg/\∃m',lW r.2.2 m'/\m'+dx fs r.2.1<=m+dx fs bg
theorem xW(fs:Fs)(f:Nat)(IH:∀j bg d m,bg.length=4->lW d m->LD fs bg m (b7 fs f j bg d))(x k:Nat)(bg:List Bool)(d:Db)(m:Nat)(hk:k<=(aj fs x).size)(hl:bg.length=4)(hB:lW d m)(hw:aG (av (aj fs x) k).1=true) :
    LD fs bg (m+1) (eW fs f x k bg d).1/\k<(eW fs f x k bg d).2/\(eW fs f x k bg d).2<=(aj fs x).size:=by
  have nl:=eO (aj fs x) k hk;have nl2:=nl.2.2 hw;unfold eW iI
  split
  · unfold lB
    split
    · exact⟨⟨hl,Nat.le_refl _,m,hB,by simp only;omega⟩,nl2,nl.2.1⟩
    · next j z' he =>
      have h2:=IH j bg d m hl hB;refine⟨⟨h2.1,h2.2.1,?_⟩,?_⟩
      · obtain⟨m',q1,q2⟩:=h2.2.2;exact⟨m',q1,by simp only;omega⟩
      · unfold px at he
        have l1:=eO (aj fs x) (av (aj fs x) k).2 nl.2.1;have l2:=eO (aj fs x) (av (aj fs x) (av (aj fs x) k).2).2 l1.2.1
        repeat' split at he
        all_goals first | (cases he;done) | skip
        injection he with he
        injection he with he1 he2
        subst he2;omega
  · exact⟨⟨hl,Nat.le_refl _,m+1,hB.take _ _,by simp only;omega⟩,nl2,nl.2.1⟩
theorem Hg(fs:Fs)(f:Nat):(∀x k bg d m,k<=(aj fs x).size->bg.length=4->lW d m->(aX fs f x k bg d).2.1.length=4/\dx fs (aX fs f x k bg d).2.1<=dx fs bg/\∃m',lW (aX fs f x k bg d).2.2 m'/\m'+dx fs (aX fs f x k bg d).2.1<=m+((aj fs x).size-k)+dx fs bg) /\
    (∀j bg d m,bg.length=4->lW d m->LD fs bg m (b7 fs f j bg d)):=by
  have second:∀f,(∀x k bg d m,k<=(aj fs x).size->bg.length=4->lW d m->(aX fs f x k bg d).2.1.length=4/\dx fs (aX fs f x k bg d).2.1<=dx fs bg/\∃m',lW (aX fs f x k bg d).2.2 m'/\m'+dx fs (aX fs f x k bg d).2.1<=m+((aj fs x).size-k)+dx fs bg) ->
      (∀j bg d m,bg.length=4->lW d m->LD fs bg m (b7 fs f j bg d)):=by
    intro f h j bg d m hl hB;unfold b7
    split
    · exact⟨hl,Nat.le_refl _,m,hB,Nat.le_refl _⟩
    · next hb =>
      have hb':bg.getD j true=false:=by simpa using hb
      have hm:=uR fs bg j hl hb';have:=h j 0 (bg.set j true) d m (Nat.zero_le _) (by simpa using hl) hB;refine⟨this.1,by omega,?_⟩;obtain⟨m',q1,q2⟩:=this.2.2;exact⟨m',q1,by omega⟩
  induction f with
  | zero =>
    have h0:∀x k bg d m,k<=(aj fs x).size->bg.length=4->lW d m->(aX fs 0 x k bg d).2.1.length=4/\dx fs (aX fs 0 x k bg d).2.1<=dx fs bg/\∃m',lW (aX fs 0 x k bg d).2.2 m'/\m'+dx fs (aX fs 0 x k bg d).2.1<=m+((aj fs x).size-k)+dx fs bg:=by
      intro x k bg d m hk hl hB;exact⟨hl,Nat.le_refl _,m,hB,by simp only[aX];omega⟩
    exact⟨h0,second 0 h0⟩
  | succ f ih =>
    have h1:∀x k bg d m,k<=(aj fs x).size->bg.length=4->lW d m->(aX fs (f+1) x k bg d).2.1.length=4/\dx fs (aX fs (f+1) x k bg d).2.1<=dx fs bg/\∃m',lW (aX fs (f+1) x k bg d).2.2 m'/\m'+dx fs (aX fs (f+1) x k bg d).2.1<=m+((aj fs x).size-k)+dx fs bg:=by
      intro x k bg d m hk hl hB
      cases hw:aG (av (aj fs x) k).1 with
      | true =>
        have st:=xW fs f ih.2 x k bg d m hk hl hB hw;obtain⟨⟨s1,s2,m1,s3,s4⟩,s5,s6⟩:=st
        cases h2:((eW fs f x k bg d).1.1.1==0) with
        | true =>
          rw[v6 fs f x k bg d hw h2];obtain⟨r1,r2,m2,r3,r4⟩:=ih.1 x (eW fs f x k bg d).2 (eW fs f x k bg d).1.2.1 (eW fs f x k bg d).1.2.2 m1 s6 s1 s3;exact⟨r1,by omega,m2,r3,by omega⟩
        | false =>
          rw[m8 fs f x k bg d hw h2];exact⟨s1,s2,m1,s3,by omega⟩
      | false =>
        by_cases h2:(av (aj fs x) k).1.fin=true/\je d=false
        · rw[wG fs f x k bg d hw h2.1 h2.2];exact⟨hl,Nat.le_refl _,m,hB,by simp only;omega⟩
        · rw[uh fs f x k bg d hw h2];exact⟨hl,Nat.le_refl _,m,hB,by simp only;omega⟩
    exact⟨h1,second (f+1) h1⟩
theorem vk(d:ByteArray)(k:Nat)(hd:d.size<=1024):(aQ d k).1.text.size<=1024:=by
  unfold aQ;generalize d.size-k+1=f
  induction f generalizing k with
  | zero=>simp[bQ,ByteArray.size]
  | succ f ih =>
    rw[bQ]
    split
    · split
      · simp[ByteArray.size]
      · exact ih _
    · split
      · simp[ByteArray.size]
      · exact ou d k hd
theorem pm(d:ByteArray)(k:Nat)(hd:d.size<=1024):(av d k).1.text.size<=1024:=by
  unfold av;generalize d.size-k+1=f
  induction f generalizing k with
  | zero=>simp[dg,ByteArray.size]
  | succ f ih =>
    rw[dg]
    split
    · split
      · exact ih _
      · exact vk d _ hd
    · exact ou d k hd
theorem AG(d:Db)(x:ByteArray)(p:Pl):(aV d x p).2.proof=d.proof∨(aV d x p).2.proof=[]∨(aV d x p).2.proof=d.proof++[(x,p)]:=by
 unfold aV
 split
 ·left
  unfold ay
  split
  ·rfl
  ·split
   ·split
    ·rfl
    ·unfold cv;split <;> rfl
   ·split
    ·split <;> rfl
    ·split
     ·rfl
     ·split
      ·rfl
      ·split
       ·rfl
       ·unfold bH
        repeat' split
        all_goals rfl
 ·split
  ·left;unfold aJ
   repeat' split
   all_goals rfl
  ·split
   ·unfold kP
    split
    ·left;rfl
    ·split
     ·left;rfl
     ·right;left;rfl
   ·split
    ·left;unfold b8;split <;> rfl
    ·split
     ·left;rfl
     ·split
      ·right;right;rfl
      ·split
       ·left;rfl
       ·left;rfl
theorem zS(d:Db)(x:ByteArray)(p:Pl):(aV d x p).2.sts=d.sts∨(∃y∈d.rbl,(aV d x p).2.sts=jq d.sts y)∨((aV d x p).2.sts=d.sts++[⟨d.kind,d.label,d.symbols,d.proof,p,0⟩]/\0<d.symbols.length):=by
 unfold aV
 split
 ·unfold ay
  split
  ·left;rfl
  ·split
   ·split
    ·left;rfl
    ·unfold cv
     split
     ·left;rfl
     ·next y hy=>right;left;exact⟨y,List.mem_of_getLast? hy,rfl⟩
   ·split
    ·split <;> (left;rfl)
    ·split
     ·left;rfl
     ·split
      ·left;rfl
      ·split
       ·left;rfl
       ·left;unfold bH
        repeat' split
        all_goals rfl
 ·split
  ·left;unfold aJ
   repeat' split
   all_goals rfl
  ·split
   ·unfold kP
    split
    ·left;rfl
    ·next hl =>
     have hpos:0<d.symbols.length:=by
      unfold kZ at hl
      split at hl <;> omega
     split
     ·left;rfl
     ·unfold bt
      split
      ·left;rfl
      ·split
       ·left;rfl
       ·right;right
        refine⟨?_,hpos⟩;unfold mD
        split <;> rfl
   ·split
    ·left;unfold b8;split <;> rfl
    ·split
     ·left;rfl
     ·split
      ·left;rfl
      ·split
       ·left;rfl
       ·left;rfl
theorem G7(d:Db)(x:ByteArray)(p:Pl):(aV d x p).2.rbl=d.rbl∨(aV d x p).2.rbl=d.rbl.dropLast∨(aV d x p).2.rbl=d.rbl++[d.sts.length]:=by
 unfold aV
 split
 ·unfold ay
  split
  ·right;right;rfl
  ·split
   ·split
    ·left;rfl
    ·unfold cv
     split
     ·left;rfl
     ·right;left;rfl
   ·split
    ·split <;> (left;rfl)
    ·split
     ·left;rfl
     ·split
      ·left;rfl
      ·split
       ·left;rfl
       ·left;unfold bH
        repeat' split
        all_goals rfl
 ·left
  split
  ·unfold aJ
   repeat' split
   all_goals rfl
  ·split
   ·unfold kP
    split
    ·rfl
    ·split
     ·rfl
     ·unfold bt
      split
      ·rfl
      ·split
       ·rfl
       ·unfold mD;split <;> rfl
   ·split
    ·unfold b8;split <;> rfl
    ·split
     ·rfl
     ·split
      ·rfl
      ·split <;> rfl
structure Lq(S:List St)(d:Db):Prop where
 pre:∃m,d.sts=S++m
 rbl:∀y∈d.rbl,S.length<=y
theorem AV(S m:List St)(y:Nat)(h:S.length<=y):∃m',jq (S++m) y=S++m':=by
 refine⟨(jq (S++m) y).drop S.length,?_⟩
 have e:(jq (S++m) y).take S.length=S:=by
  apply List.ext_getElem?
  intro i;rw[List.getElem?_take]
  split
  ·next hi =>
   unfold jq eN;rw[List.getElem?_mapIdx,List.getElem?_append_left hi,List.getElem?_eq_getElem hi];rw[Option.map_some,if_neg (by omega)]
  ·rw[List.getElem?_eq_none];omega
 conv=>lhs;rw[<-List.take_append_drop S.length (jq (S++m) y),e]
theorem Lq.take{S:List St}{d:Db}(h:Lq S d)(x:ByteArray)(p:Pl):Lq S (aV d x p).2:=by
 obtain⟨m,hm⟩:=h.pre;refine⟨?_,?_⟩
 ·rcases zS d x p with e | ⟨y,hy,e⟩ | ⟨e,_⟩
  ·exact⟨m,by rw[e,hm]⟩
  ·rw[e,hm];exact AV S m y (h.rbl y hy)
  ·exact⟨m++[_],by rw[e,hm,List.append_assoc]⟩
 ·rcases G7 d x p with e | e | e
  ·rw[e];exact h.rbl
  ·rw[e];intro y hy;exact h.rbl y (List.dropLast_subset _ hy)
  ·rw[e]
   intro y hy
   rcases List.mem_append.1 hy with hy | hy
   ·exact h.rbl y hy
   ·rw[List.mem_singleton.1 hy,hm,List.length_append];omega
theorem Lq.begin{d:Db}{m:Nat}(h:lW d m)(ho:je d=false):Lq d.sts d:=by
 refine⟨⟨[],by simp⟩,fun y hy=>?_⟩;have hs:=h.same
 have hb:d.blocks.length=0:=by
  unfold je at ho;simp only[Bool.or_eq_false_iff,decide_eq_false_iff_not]at ho;omega
 rw[hb]at hs;rw[List.eq_nil_of_length_eq_zero hs]at hy
 cases hy
structure Rw where
  label:ByteArray
  verdict:Int
  why:Int
  at_:Pl
def lu(r:Rw):List Value:=[.string r.label,.int .i64 r.verdict,.int .i64 r.why,.string r.at_.file,.int .i64 r.at_.line,.int .i64 r.at_.col]
def ju(l:List Rw):List Value:=l.flatMap lu
def jG:Pl:=⟨⟨#[]⟩,0,0⟩
def nM:Rw:=⟨⟨#[]⟩,0,0,jG⟩
theorem Lk:(Tryz.prog.info? 38).map (fun i=>(i.zero,i.size,i.bytes))=some (some (.agg #[.string ⟨#[]⟩,.int .i64 0,.int .i64 0,.string ⟨#[]⟩,.int .i64 0,.int .i64 0]),6,64):=by kernel_rfl
theorem yn(l:List Rw):(ju l).length=l.length*6:=by
  induction l with
  | nil=>rfl
  | cons x r ih=>have e:ju (x :: r)=lu x++ju r:=rfl
                   rw[e,List.length_append,ih];simp[lu];omega
theorem C7(l:List Rw)(k:Nat)(hk:k<l.length)(j:Nat)(hj:j<6):(ju l)[k*6+j]?=(lu l[k])[j]?:=by
  induction l generalizing k with
  | nil=>simp at hk
  | cons s r ih =>
    have e:ju (s :: r)=lu s++ju r:=rfl;rw[e]
    cases k with
    | zero=>rw[List.getElem?_append_left (by simp[lu];omega)];simp
    | succ k =>
      rw[List.getElem?_append_right (by simp[lu];omega)];have e2:(k+1)*6+j-(lu s).length=k*6+j:=by simp[lu];omega
      rw[e2,ih k (by simpa using hk)];rfl
def Iq(p:Pl):Prop:=-1000000000<=p.line/\p.line<=1000000000
def nZ(w:World):Option Nat->List Rw->Prop
 | none,L=>L=[]
 | some g,L=>0<L.length/\w.heap[g]?=some (.cells (ju L).toArray 38 (0,0))
theorem nZ.kept{w w':World}{o:Option Nat}{L:List Rw}{S:List Nat}(h:nZ w o L)(k:ab S w w')(hS:∀g,o=some g->g∉S):nZ w' o L:=by
 cases o with
 | none=>exact h
 | some g=>exact⟨h.1,k.get h.2 (hS g rfl)⟩
theorem nZ.still{w w':World}{o:Option Nat}{L:List Rw}(h:nZ w o L)(k:ab [] w w'):nZ w' o L:=h.kept k (by simp)
theorem nZ.lt{w:World}{o:Option Nat}{L:List Rw}(h:nZ w o L)(g:Nat)(e:o=some g):g<w.heap.size:=by
 subst e;exact ae h.2
structure LK(L:List Rw):Prop where
 len:L.length<=100000
 line:∀r∈L,Iq r.at_
def ng(w:World)(x:Nat)(fs:Fs)(rep:Bool)(a b c:Value):Prop:=bm w x 80 fs [.bool rep,a,b,c]
def Jf:Value:=.slice none 0 0
def lO(w:World)(x:Nat)(fs:Fs):Prop:=ng w x fs false Jf Jf Jf
def bW(w:World)(x:Nat)(fs:Fs):Prop:=∃rep a b c,ng w x fs rep a b c
theorem lO.anyR{w:World}{x:Nat}{fs:Fs}(h:lO w x fs):bW w x fs:=⟨_,_,_,_,h⟩
theorem ng.anyR{w:World}{x:Nat}{fs:Fs}{rep:Bool}{a b c:Value}(h:ng w x fs rep a b c):bW w x fs:=⟨_,_,_,_,h⟩
theorem lO.kept{w w':World}{x:Nat}{fs:Fs}{S:List Nat}(h:lO w x fs)(k:ab S w w')(hx:x∉S):lO w' x fs:=bm.kept h k hx
theorem bW.kept{w w':World}{x:Nat}{fs:Fs}{S:List Nat}(h:bW w x fs)(k:ab S w w')(hx:x∉S):bW w' x fs:=by
 obtain⟨r,a,b,c,h⟩:=h;exact⟨r,a,b,c,bm.kept h k hx⟩
theorem bW.lt{w:World}{x:Nat}{fs:Fs}(h:bW w x fs):x<w.heap.size:=by
 obtain⟨r,a,b,c,h⟩:=h;exact bm.lt h
theorem ng.cells{w:World}{x:Nat}{fs:Fs}{rep:Bool}{a b c:Value}(h:ng w x fs rep a b c) :
  w.cell? ⟨x,9,none⟩=some (.bool rep)/\w.cell? ⟨x,10,none⟩=some a/\w.cell? ⟨x,11,none⟩=some b/\w.cell? ⟨x,12,none⟩=some c:=by
 refine⟨?_,?_,?_,?_⟩ <;> (rw[aa h.1];rfl)
def zC(w:World)(x:Nat)(rep:Bool)(a b c:Value):World:=(((w.setCell ⟨x,9,none⟩ (.bool rep)).setCell ⟨x,10,none⟩ a).setCell ⟨x,11,none⟩ b).setCell ⟨x,12,none⟩ c
theorem ng.turn{w:World}{x:Nat}{fs:Fs}{rep:Bool}{a b c:Value}(h:ng w x fs rep a b c)(rep':Bool)(a' b' c':Value):ng (zC w x rep' a' b' c') x fs rep' a' b' c':=by
 refine⟨?_,h.2⟩;unfold zC;rw[ah (ah (ah (ah h.1 9 (.bool rep')) 10 a') 11 b') 12 c'];rfl
theorem Bb{S:List Nat}{w w':World}(h:ab S w w'){x:Nat}(hx:x∈S∨w.heap.size<=x)(rep:Bool)(a b c:Value):ab S w (zC w' x rep a b c) :=
 (((h.setCell hx _).setCell hx _).setCell hx _).setCell hx _
theorem Jl(w:World):Calls Tryz.prog 27 #[] w fun e w'=>e=.returned (.pointer (some ⟨w.heap.size,0,none⟩))/\lO w' w.heap.size []/\ab [] w w':=by
 go_enter Tryz.func27,Tryz.ntmps27;go_wp2;go_ret;exact⟨rfl,⟨heap_alloc_new _ _,by simp⟩,(ab.refl _ _).alloc _⟩
theorem uD(x:Nat)(fs:Fs)(w:World)(h:bW w x fs) :
  Calls Tryz.prog 33 #[.pointer (some ⟨x,0,none⟩)] w fun e w'=>e=.returned (.tuple #[])/\lO w' x fs/\ab [x] w w':=by
 obtain⟨rep,a,b,c,h⟩:=h;obtain⟨c9,c10,c11,c12⟩:=h.cells;have hf:=bm.free h;have HT:=(show Hid _ from h.turn false (.slice none 0 0) (.slice none 0 0) (.slice none 0 0));unfold zC at HT;have hxw:=bm.lt h;go_enter Tryz.func33,Tryz.ntmps33;go_wp2;go_end0;exact⟨rfl,HT.out,Bb (ab.refl _ _) (Or.inl (by simp)) _ _ _ _⟩
theorem FY(x:Nat)(n d:ByteArray)(fs:Fs)(w:World)(h:bW w x fs)(hn:n.size<=1073741824)(hd:d.size<=4294967296) :
  Calls Tryz.prog 14 #[.pointer (some ⟨x,0,none⟩),.string n,.string d] w fun e w'=>e=.returned (.int .i64 (gy fs n d).1)/\bW w' x (gy fs n d).2/\((gy fs n d).1=0->lO w' x (gy fs n d).2)/\ab [x] w w':=by
 obtain⟨rep,a,b,c,h⟩:=h;have PF:=Jp x 80 n d fs [.bool rep,a,b,c] w h hn hd;have HPF:=(show Hid _ from PF);clear PF;generalize gy fs n d=pf at *;obtain⟨e0,fs'⟩:=pf;simp only at HPF ⊢
 cases he:(e0==0)
 ·go_enter Tryz.func14,Tryz.ntmps14
  go_wp2_with fail;refine Calls.mono HPF.out ?_;rintro e w2 ⟨rfl,h2,hk2⟩;go_wp2;go_ret;exact⟨rfl,⟨rep,a,b,c,h2⟩,fun e=>by subst e;simp at he,hk2⟩
 ·go_enter Tryz.func14,Tryz.ntmps14
  go_wp2_with fail;refine Calls.mono HPF.out ?_;rintro e w2 ⟨rfl,h2,hk2⟩;go_wp2_with fail;refine(uD x fs' w2 ⟨rep,a,b,c,h2⟩).mono ?_;rintro e w3 ⟨rfl,h3,hk3⟩;go_wp2;go_ret;exact⟨rfl,h3.anyR,fun _=>h3,hk2.trans hk3⟩
theorem lG(t n:ByteArray)(r l c:Int)(f:Bool)(w:World) :
  Calls Tryz.prog 159 #[.agg #[.string t,.int .i64 r,.bool f,.string n,.int .i64 l,.int .i64 c]] w fun e w'=>e=.returned (.agg #[.int .i64 (if f=true then 7 else r),.string n,.int .i64 l,.int .i64 c])/\ab [] w w':=by
 cases f
 ·go_enter Tryz.func159,Tryz.ntmps159
  go_wp2;exact bodyPost_ret (v:=.agg #[.int .i64 r,.string n,.int .i64 l,.int .i64 c]) (by simp[results,Tryz.results159,go_sem]) rfl ⟨rfl,((ab.refl _ _).alloc _).alloc _⟩
 ·go_enter Tryz.func159,Tryz.ntmps159
  go_wp2;exact bodyPost_ret (v:=.agg #[.int .i64 7,.string n,.int .i64 l,.int .i64 c]) (by simp[results,Tryz.results159,go_sem]) rfl ⟨rfl,((ab.refl _ _).alloc _).alloc _⟩
def dr(v:Nat)(bg:List Bool):List Value:=.pointer (some ⟨v,0,none⟩) :: bg.map Value.bool
theorem ie(v:Nat)(bg:List Bool)(h:bg.length=4):(dr v bg).length=5:=by simp[dr,h]
theorem aN.pre{w:World}{b t:Nat}{pre post:List Value}{d:Db}{H:Nat->Hd}(h:aN w b t pre post d H)(i:Nat)(hi:i<pre.length)(u:Value) :
  aN (w.setCell ⟨b,i,none⟩ u) b t (pre.set i u) post d H/\aw b w H (w.setCell ⟨b,i,none⟩ u) H:=by
 refine⟨⟨?_,?_,h.apart,h.off⟩,(dQ.refl _ _).setCell (Or.inl (Or.inl rfl)) _,fun _ hk=>Or.inl hk⟩
 ·rw[ah h.blk,List.setIfInBounds_toArray,List.set_append_left _ _ hi]
 ·intro j
  refine(h.own j).moved (fun k hk=>Below.heap_setCell _ _ _ _ ?_);rintro rfl;exact h.off j hk
theorem aN.preCell{w:World}{b t:Nat}{pre post:List Value}{d:Db}{H:Nat->Hd}(h:aN w b t pre post d H)(i:Nat)(hi:i<pre.length):w.cell? ⟨b,i,none⟩=pre[i]?:=by
 rw[aa h.blk];simp[List.getElem?_append_left hi]
def eS(b sp:Nat)(w:World)(H:Nat->Hd)(w':World)(H':Nat->Hd):Prop :=
 dQ (fun k=>k=b∨k=sp∨fk H k) w w'/\∀k,fk H' k->fk H k∨w.heap.size<=k
theorem aw.moved{b:Nat}{w w':World}{H H':Nat->Hd}(sp:Nat)(t:aw b w H w' H'):eS b sp w H w' H' :=
 ⟨⟨t.1.os,t.1.tape,t.1.output,t.1.size,fun k hk hn=>t.1.block k hk (fun e=>hn (e.elim Or.inl (fun e=>Or.inr (Or.inr e))))⟩,t.2⟩
theorem eS.trans{b sp:Nat}{w0 w1 w2:World}{H0 H1 H2:Nat->Hd}(a:eS b sp w0 H0 w1 H1)(c:eS b sp w1 H1 w2 H2):eS b sp w0 H0 w2 H2:=by
 refine⟨⟨c.1.os.trans a.1.os,c.1.tape.trans a.1.tape,c.1.output.trans a.1.output,Nat.le_trans a.1.size c.1.size,?_⟩,?_⟩
 ·intro k hk hn
  rw[<-a.1.block k hk hn];refine c.1.block k (Nat.lt_of_lt_of_le hk a.1.size) ?_;rintro (e | e | hm)
  ·exact hn (Or.inl e)
  ·exact hn (Or.inr (Or.inl e))
  ·rcases a.2 k hm with h | h
   ·exact hn (Or.inr (Or.inr h))
   ·omega
 ·intro k hk
  rcases c.2 k hk with h | h
  ·exact a.2 k h
  ·exact Or.inr (Nat.le_trans a.1.size h)
theorem eS.refl(b sp:Nat)(w:World)(H:Nat->Hd):eS b sp w H w H:=⟨dQ.refl _ _,fun _ hk=>Or.inl hk⟩
theorem eS.still{b sp:Nat}{w0 w1 w2:World}{H0 H1:Nat->Hd}(a:eS b sp w0 H0 w1 H1)(c:ab [] w1 w2):eS b sp w0 H0 w2 H1 :=
 a.trans ⟨c.toP (by simp),fun _ hk=>Or.inl hk⟩
theorem eS.first{b sp:Nat}{w0 w1 w2:World}{H0 H1:Nat->Hd}(c:ab [] w0 w1)(a:eS b sp w1 H0 w2 H1):eS b sp w0 H0 w2 H1 :=
 eS.trans ⟨c.toP (by simp),fun _ hk=>Or.inl hk⟩ a
theorem eS.scan{b sp:Nat}{w0 w1 w2:World}{H0 H1:Nat->Hd}(a:eS b sp w0 H0 w1 H1)(c:ab [sp] w1 w2):eS b sp w0 H0 w2 H1 :=
 a.trans ⟨c.toP (by intro k hk _;simp at hk;exact Or.inr (Or.inl hk)),fun _ hk=>Or.inl hk⟩
theorem eS.beyond{b sp:Nat}{w wr w':World}{H H1:Nat->Hd}{S:List Nat}(T:eS b sp w H wr H1)(k:ab S wr w')(hS:∀x,x∈S->w.heap.size<=x):eS b sp w H w' H1 :=
 ⟨⟨k.os.trans T.1.os,k.tape.trans T.1.tape,k.output.trans T.1.output,Nat.le_trans T.1.size k.size,fun i hi hn=>by
  rw[<-T.1.block i hi hn];exact k.block i (Nat.lt_of_lt_of_le hi T.1.size) (fun hm=>by have:=hS i hm;omega)⟩,T.2⟩
theorem eS.fresh{b sp:Nat}{w w2:World}{H H2:Nat->Hd}(T:eS b sp w H w2 H2)(F:Nat)(h1:F<w.heap.size)(h2:¬fk H F):¬fk H2 F:=by
 intro hm
 rcases T.2 F hm with h | h
 ·exact h2 h
 ·omega
theorem aw.fresh{b:Nat}{w w2:World}{H H2:Nat->Hd}(T:aw b w H w2 H2)(F:Nat)(h1:F<w.heap.size)(h2:¬fk H F):¬fk H2 F:=by
 intro hm
 rcases T.2 F hm with h | h
 ·exact h2 h
 ·omega
theorem ig{w:World}{r:Nat}(a0 a1 a2 a3:Value):ab [r] w ((((w.setCell ⟨r,0,none⟩ a0).setCell ⟨r,1,none⟩ a1).setCell ⟨r,2,none⟩ a2).setCell ⟨r,3,none⟩ a3) :=
 ((((ab.refl _ _).setCell (Or.inl (by simp)) _).setCell (Or.inl (by simp)) _).setCell (Or.inl (by simp)) _).setCell (Or.inl (by simp)) _
theorem AW{w:World}{r:Nat}(a0 a1 a2 a3 a4 a5:Value):ab [r] w ((((((w.setCell ⟨r,0,none⟩ a0).setCell ⟨r,1,none⟩ a1).setCell ⟨r,2,none⟩ a2).setCell ⟨r,3,none⟩ a3).setCell ⟨r,4,none⟩ a4).setCell ⟨r,5,none⟩ a5) :=
 ((((((ab.refl _ _).setCell (Or.inl (by simp)) _).setCell (Or.inl (by simp)) _).setCell (Or.inl (by simp)) _).setCell (Or.inl (by simp)) _).setCell (Or.inl (by simp)) _).setCell (Or.inl (by simp)) _
def a8:Array Value:=#[.int .i64 0,.string ⟨#[]⟩,.int .i64 0,.int .i64 0]
theorem bR{w:World}{r:Nat}(h:w.heap[r]?=some (.cells a8 87 (0,0))) :
  w.cell? ⟨r,0,none⟩=some (.int .i64 0)/\w.cell? ⟨r,1,none⟩=some (.string ⟨#[]⟩)/\w.cell? ⟨r,2,none⟩=some (.int .i64 0)/\w.cell? ⟨r,3,none⟩=some (.int .i64 0):=by
 refine⟨?_,?_,?_,?_⟩ <;> (rw[aa h];rfl)
theorem mq{w w2:World}{b t F:Nat}{pre post:List Value}{d:Db}{H H2:Nat->Hd}(D:aN w2 b t pre post d H2)(T:aw b w H w2 H2)(h1:w.heap.size<=F)(h2:b≠F)(h3:¬fk H2 F)(a0 a1 a2 a3:Value) :
  aN ((((w2.setCell ⟨F,0,none⟩ a0).setCell ⟨F,1,none⟩ a1).setCell ⟨F,2,none⟩ a2).setCell ⟨F,3,none⟩ a3) b t pre post d H2 /\
  aw b w H ((((w2.setCell ⟨F,0,none⟩ a0).setCell ⟨F,1,none⟩ a1).setCell ⟨F,2,none⟩ a2).setCell ⟨F,3,none⟩ a3) H2:=by
 refine⟨D.kept (ig _ _ _ _) (by simpa using h2) (fun x hx=>by simp;rintro rfl;exact h3 hx),?_,T.2⟩;exact(((T.1.setCell (Or.inr h1) _).setCell (Or.inr h1) _).setCell (Or.inr h1) _).setCell (Or.inr h1) _
set_option maxRecDepth 100000 in
theorem qU(b t:Nat)(v:Nat)(bg:List Bool)(hbg:bg.length=4)(d:Db)(H:Nat->Hd)(sp:Value)(x n:ByteArray)(l c:Int)(w:World)(h:aN w b t (dr v bg) [] d H)(hs:eR d 10000000)(hx:x.size<=1073741824)(hi:xS d 100000000)
  (hn:(x.toList == [36,91])=false) :
  Calls Tryz.prog 157 #[.pointer (some ⟨b,0,none⟩),sp,.agg #[.string x,.int .i64 0,.bool false,.string n,.int .i64 l,.int .i64 c]] w fun e w' =>
   e=.returned (go (if((aV d x ⟨n,l,c⟩).1==0)=true then cK else((aV d x ⟨n,l,c⟩).1,⟨n,l,c⟩))) /\
   ∃H',aN w' b t (dr v bg) [] (aV d x ⟨n,l,c⟩).2 H'/\aw b w H w' H':=by
 have hbw:=h.lt;have TK:=fun(w':World) (h':aN w' b t (dr v bg) [] d H)=>Fw b t 5 (dr v bg) [] d H x n l c w' h' (ie v bg hbg) hs hx hi
 unfold fV at TK;have HTK:=(show Hid _ from TK);clear TK;generalize aV d x ⟨n,l,c⟩=td at *;obtain⟨r,d'⟩:=td;simp only at HTK;obtain⟨W,hW⟩:∃W,W=((w.alloc (.cells #[.string x,.int .i64 0,.bool false,.string n,.int .i64 l,.int .i64 c] 255)).alloc (.cells #[.int .i64 0,.string ⟨#[]⟩,.int .i64 0,.int .i64 0] 87)):=⟨_,rfl⟩
 have hK:ab [] w W:=by rw[hW];exact((ab.refl [] w).alloc _).alloc _
 have hD:aN W b t (dr v bg) [] d H:=h.still hK
 have hI:W.heap[w.heap.size]?=some (.cells #[.string x,.int .i64 0,.bool false,.string n,.int .i64 l,.int .i64 c] 255 (0,0)):=by
  rw[hW];exact((ab.refl [] _).alloc _).get (heap_alloc_new _ _) (by simp)
 have hF:W.heap[w.heap.size+1]?=some (.cells a8 87 (0,0)):=by
  rw[hW];have:=heap_alloc_new (w.alloc (.cells #[.string x,.int .i64 0,.bool false,.string n,.int .i64 l,.int .i64 c] 255)) (.cells #[.int .i64 0,.string ⟨#[]⟩,.int .i64 0,.int .i64 0] 87);simpa [a8] using this
 have HNO:Hid (∀k,w.heap.size<=k->¬(k=b∨fk H k)):=by
  rintro k hk (e | hm)
  ·omega
  ·have:=h.inlt hm;omega
 have HW:=(show Hid _ from hW.symm);clear hW h;have i0:W.cell? ⟨w.heap.size,0,none⟩=some (.string x):=by rw[aa hI];rfl
 have i3:W.cell? ⟨w.heap.size,3,none⟩=some (.string n):=by rw[aa hI];rfl
 have i4:W.cell? ⟨w.heap.size,4,none⟩=some (.int .i64 l):=by rw[aa hI];rfl
 have i5:W.cell? ⟨w.heap.size,5,none⟩=some (.int .i64 c):=by rw[aa hI];rfl
 have HAF:=(show Hid _ from fun(w2:World) (H2:Nat->Hd) (D2:aN w2 b t (dr v bg) [] d' H2) (T2:aw b W.drew H w2 H2) (a0 a1 a2 a3:Value) =>
  mq D2 ((T2.first (ab.refl [] W).drew).first hK) (F:=w.heap.size+1) (by omega) (by omega) (T2.fresh (w.heap.size+1) (by exact ae hF) (fun hm=>HNO.out (w.heap.size+1) (by omega) (Or.inr hm))) a0 a1 a2 a3)
 have HCE:=(show Hid _ from fun(w2:World) (H2:Nat->Hd) (T2:aw b W.drew H w2 H2)=>(show _/\_ from⟨T2.1.get (by exact hI) (HNO.out _ (Nat.le_refl _)),T2.1.get (by exact hF) (HNO.out _ (by omega))⟩))
 have CE:∀(w2:World) (H2:Nat->Hd) (_:aw b W.drew H w2 H2),w2.cell? ⟨w.heap.size,0,none⟩=some (.string x)/\w2.cell? ⟨w.heap.size,3,none⟩=some (.string n)/\w2.cell? ⟨w.heap.size,4,none⟩=some (.int .i64 l)/\w2.cell? ⟨w.heap.size,5,none⟩=some (.int .i64 c):=by
  intro w2 H2 T2;have hI2:=(HCE.out w2 H2 T2).1;refine⟨?_,?_,?_,?_⟩ <;> (rw[aa hI2];rfl)
 have HCC:=(show Hid _ from CE);clear CE;go_enter Tryz.func157,Tryz.ntmps157
 go_upto_region 1 with fail
 rw[HW.out]
 go_upto_region 3 with fail
 cases hr:(r==0)
 ·have hr':(r != 0)=true:=by simp[bne,hr]
  go_region_held3 (fun w'=>w'.cell? ⟨w.heap.size,0,none⟩=some (.string x)/\w'.cell? ⟨w.heap.size,3,none⟩=some (.string n)/\w'.cell? ⟨w.heap.size,4,none⟩=some (.int .i64 l)/\w'.cell? ⟨w.heap.size,5,none⟩=some (.int .i64 c)) (go_keep) (first | (go_at_call 206;refine(HTK.out _ (by exact hD.still (ab.refl [] _).drew)).mono ?_;rintro e w2 ⟨rfl,H2,D2,T2⟩;obtain⟨r0,r3,r4,r5⟩:=HCC.out w2 H2 T2))
  all_goals
   have hF2:=(HCE.out w2 H2 T2).2;have HA':=(show Hid _ from HAF.out w2 H2 D2 T2);obtain⟨j0,j1,j2,j3⟩:=bR hF2;have y:=ak hF2;go_wp2
   exact bodyPost_ret (v:=.agg #[.int .i64 r,.string n,.int .i64 l,.int .i64 c]) (by simp[results,Tryz.results157,go_sem,j0,j1,j2,j3]) rfl
    ⟨rfl,H2,(HA'.out _ _ _ _).1,(HA'.out _ _ _ _).2⟩
 ·have hr':(r != 0)=false:=by simp[bne,hr]
  go_region_held3 (fun w'=>w'.cell? ⟨w.heap.size,0,none⟩=some (.string x)/\w'.cell? ⟨w.heap.size,3,none⟩=some (.string n)/\w'.cell? ⟨w.heap.size,4,none⟩=some (.int .i64 l)/\w'.cell? ⟨w.heap.size,5,none⟩=some (.int .i64 c)) (go_keep) (first | (go_at_call 206;refine(HTK.out _ (by exact hD.still (ab.refl [] _).drew)).mono ?_;rintro e w2 ⟨rfl,H2,D2,T2⟩;obtain⟨r0,r3,r4,r5⟩:=HCC.out w2 H2 T2))
  all_goals
   have hF2:=(HCE.out w2 H2 T2).2;have HA':=(show Hid _ from HAF.out w2 H2 D2 T2);obtain⟨j0,j1,j2,j3⟩:=bR hF2;have y:=ak hF2;go_wp2
   exact bodyPost_ret (v:=.agg #[.int .i64 0,.string ⟨#[]⟩,.int .i64 0,.int .i64 0]) (by simp[results,Tryz.results157,go_sem,j0,j1,j2,j3]) rfl
    ⟨rfl,H2,(HA'.out _ _ _ _).1,(HA'.out _ _ _ _).2⟩
end Go.Proofs.YtpddjjabfbfifaaGreat
