import Derived.Deep.RegionHeld3
import Derived.BigQuiet
import Derived.Test.YtpddjjabfbfifaaGreatG07
namespace Go.Proofs.YtpddjjabfbfifaaGreat
open Go.RowKit
set_option maxHeartbeats 40000000
structure lV(d:Db)(m:Nat):Prop where
  labels:d.labels.length<=m
  constants:d.constants.length+d.symbols.length<=m
  variables:d.variables.length+d.symbols.length<=m
  active:d.active.length+d.symbols.length<=m
  typed:d.typed.length+d.symbols.length<=m
  blocks:d.blocks.length<=m
  sts:d.sts.length<=m
  proof:d.proof.length<=m
  inner:∀p,p∈d.blocks->p.1<=m/\p.2<=m
  same:d.rbl.length=d.blocks.length
  recs:∀x,x∈d.rbl->x<=d.sts.length
theorem lV.small{d:Db}{m N:Nat}(h:lV d m)(hN:m<=N):eR d N/\xT d N :=
  ⟨⟨by have:=h.labels;omega,by have:=h.constants;omega,by have:=h.variables;omega,by have:=h.active;omega,by have:=h.typed;omega,by have:=h.blocks;omega,by have:=h.sts;omega,by have:=h.blocks;have:=h.same;omega,by have:=h.constants;omega,by have:=h.proof;omega⟩,
   ⟨fun p hp=>by have:=h.inner p hp;omega,h.same,h.recs⟩⟩
theorem lV.mono{d:Db}{m m':Nat}(h:lV d m)(hm:m<=m'):lV d m' :=
  ⟨by have:=h.labels;omega,by have:=h.constants;omega,by have:=h.variables;omega,by have:=h.active;omega,by have:=h.typed;omega,by have:=h.blocks;omega,by have:=h.sts;omega,by have:=h.proof;omega,fun p hp=>by have:=h.inner p hp;omega,h.same,h.recs⟩
theorem lV.empty:lV eF 0:=by
  refine⟨?_,?_,?_,?_,?_,?_,?_,?_,?_,?_,?_⟩ <;> simp[eF]
theorem lV.plain{d:Db}{m:Nat}(h:lV d m)(k:Int)(l:ByteArray)(b:Bool):lV { d with kind:=k,label:=l,inProof:=b } m:=⟨h.labels,h.constants,h.variables,h.active,h.typed,h.blocks,h.sts,h.proof,h.inner,h.same,h.recs⟩
theorem tD(l:List St)(b:Nat):(jo l b).length=l.length:=ja l b l.length
theorem lV.declare{d:Db}{m:Nat}(h:lV d m)(p:Pl):lV { bt d p with kind:=0,label:=⟨#[]⟩,symbols:=[],inProof:=false,proof:=[] } (m+1):=by
  have e2:=h.constants;have e3:=h.variables;have e4:=h.active;have e5:=h.typed;have h':=h.mono (Nat.le_succ m);unfold bt
  split
  · exact⟨h'.labels,by simp;omega,by simp;omega,by simp;omega,by simp;omega,h'.blocks,h'.sts,by simp,h'.inner,h'.same,h'.recs⟩
  · split
    · have:=zU d.variables (d.symbols.take d.symbols.length)
      simp only[List.take_length]at this;exact⟨h'.labels,by simp[dP];omega,by simp[dP];omega,by simp[dP];omega,by simp[dP];omega,h'.blocks,h'.sts,by simp,h'.inner,h'.same,h'.recs⟩
    · unfold mX nc
      have:=h.sts
      split
      · next hc=>exact⟨h'.labels,by simp;omega,by simp;omega,by simp;omega,by simp;omega,h'.blocks,by simp;omega,by simp,h'.inner,h'.same,fun x hx=>by have:=h.recs x hx;simp;omega⟩
      · exact⟨h'.labels,by simp;omega,by simp;omega,by simp;omega,by simp;omega,h'.blocks,by simp;omega,by simp,h'.inner,h'.same,fun x hx=>by have:=h.recs x hx;simp;omega⟩
theorem lV.take{d:Db}{m:Nat}(h:lV d m)(x:ByteArray)(pl:Pl):lV (aV d x pl).2 (m+1):=by
  have h':=h.mono (Nat.le_succ m);have hk:=fun k=>h'.plain k d.label d.inProof
  have e1:=h.labels;have e2:=h.constants;have e3:=h.variables;have e4:=h.active;have e5:=h.typed;have e6:=h.blocks
  have hlab:lV (bH d x).2 (m+1):=by
    unfold bH
    split
    · exact h'
    · split
      · exact h'
      · split
        · exact h'
        · exact⟨by simp;omega,h'.constants,h'.variables,h'.active,h'.typed,h'.blocks,h'.sts,h'.proof,h'.inner,h'.same,h'.recs⟩
  have hkey:lV (aJ d x).2 (m+1):=by
    unfold aJ
    split
    · exact hk 2
    · split
      · exact hk 3
      · split
        · exact hk 4
        · split
          · exact hk 5
          · exact h'
  have hfst:lV (ay d x).2 (m+1):=by
    unfold ay
    split
    · refine⟨h'.labels,h'.constants,h'.variables,h'.active,h'.typed,by simp;omega,h'.sts,h'.proof,?_,by simp[h.same],?_⟩
      · intro p hp
        simp only[List.mem_append,List.mem_singleton]at hp
        rcases hp with hp | rfl
        · exact h'.inner p hp
        · simp only;omega
      · intro y hy
        simp only[List.mem_append,List.mem_singleton]at hy
        rcases hy with hy | rfl
        · exact h.recs y hy
        · exact Nat.le_refl _
    · split
      · split
        · exact h'
        · next p hp =>
          unfold cw
          have hne:d.rbl≠[]:=by
            intro e;have:=h.same;rw[e,pj hp]at this;simp at this
          obtain⟨y,hy⟩:∃y,d.rbl.getLast?=some y:=⟨_,List.getLast?_eq_some_getLast hne⟩
          rw[hy];refine⟨h'.labels,h'.constants,h'.variables,?_,?_,?_,?_,h'.proof,?_,?_,?_⟩
          · simp only[cU,List.length_take];omega
          · simp only[cU,List.length_take];omega
          · simp only[cU,List.length_dropLast];omega
          · show(jo d.sts y).length<=_;rw[tD];exact h'.sts
          · intro q hq
            simp only[cU]at hq;exact h'.inner q (List.dropLast_subset _ hq)
          · simp only[cU,List.length_dropLast,h.same]
          · intro q hq
            show q<=(jo d.sts y).length
            rw[tD];exact h.recs q (List.dropLast_subset _ hq)
      · split
        · split
          · exact h'
          · exact hk 7
        · split
          · exact hk 8
          · split
            · exact hk 1
            · split
              · exact h'
              · exact hlab
  have hend:lV (kN d pl).2 (m+1):=by
    unfold kN
    split
    · exact h'
    · split
      · exact h'
      · exact h.declare pl
  unfold aV
  split
  · exact hfst
  · split
    · exact hkey
    · split
      · exact hend
      · split
        · unfold bY
          split
          · exact h'
          · exact h'.plain d.kind d.label true
        · split
          · exact h'
          · split
            · exact⟨h'.labels,h'.constants,h'.variables,h'.active,h'.typed,h'.blocks,h'.sts,by have:=h.proof;simp;omega,h'.inner,h'.same,h'.recs⟩
            · split
              · exact⟨h'.labels,by simp;omega,by simp;omega,by simp;omega,by simp;omega,h'.blocks,h'.sts,h'.proof,h'.inner,h'.same,h'.recs⟩
              · exact h'
def Iy(fs:Fs)(bg:List Bool)(j:Nat):Nat:=if bg.getD j true=true then 0 else(aj fs j).size+2
def dx(fs:Fs)(bg:List Bool):Nat:=Iy fs bg 0+Iy fs bg 1+Iy fs bg 2+Iy fs bg 3
theorem ua(fs:Fs)(bg:List Bool)(j:Nat)(hl:bg.length=4)(hb:bg.getD j true=false):dx fs (bg.set j true)+(aj fs j).size+2=dx fs bg:=by
  match bg,hl with
  | [a,b,c,d],_ =>
    match j with
    | 0=>simp at hb;subst hb;simp[dx,Iy];omega
    | 1=>simp at hb;subst hb;simp[dx,Iy];omega
    | 2=>simp at hb;subst hb;simp[dx,Iy];omega
    | 3=>simp at hb;subst hb;simp[dx,Iy];omega
    | j+4=>simp at hb
def LC(fs:Fs)(bg:List Bool)(m:Nat)(r:Fy):Prop :=
  r.2.1.length=4/\dx fs r.2.1<=dx fs bg/\∃m',lV r.2.2 m'/\m'+dx fs r.2.1<=m+dx fs bg
theorem zJ(fs:Fs)(f:Nat)(IH:∀j bg d m,bg.length=4->lV d m->LC fs bg m (b7 fs f j bg d))(x k:Nat)(bg:List Bool)(d:Db)(m:Nat)(hk:k<=(aj fs x).size)(hl:bg.length=4)(hB:lV d m)(hw:aG (av (aj fs x) k).1=true) :
    LC fs bg (m+1) (fe fs f x k bg d).1/\k<(fe fs f x k bg d).2/\(fe fs f x k bg d).2<=(aj fs x).size:=by
  have nl:=eN (aj fs x) k hk;have nl2:=nl.2.2 hw;unfold fe iO
  split
  · unfold lC
    split
    · exact⟨⟨hl,Nat.le_refl _,m,hB,by simp only;omega⟩,nl2,nl.2.1⟩
    · next j z' he =>
      have h2:=IH j bg d m hl hB;refine⟨⟨h2.1,h2.2.1,?_⟩,?_⟩
      · obtain⟨m',q1,q2⟩:=h2.2.2;exact⟨m',q1,by simp only;omega⟩
      · unfold ph at he
        have l1:=eN (aj fs x) (av (aj fs x) k).2 nl.2.1;have l2:=eN (aj fs x) (av (aj fs x) (av (aj fs x) k).2).2 l1.2.1
        repeat' split at he
        all_goals first | (cases he;done) | skip
        injection he with he
        injection he with he1 he2
        subst he2;omega
  · exact⟨⟨hl,Nat.le_refl _,m+1,hB.take _ _,by simp only;omega⟩,nl2,nl.2.1⟩
theorem Gn(fs:Fs)(f:Nat):(∀x k bg d m,k<=(aj fs x).size->bg.length=4->lV d m->(aX fs f x k bg d).2.1.length=4/\dx fs (aX fs f x k bg d).2.1<=dx fs bg/\∃m',lV (aX fs f x k bg d).2.2 m'/\m'+dx fs (aX fs f x k bg d).2.1<=m+((aj fs x).size-k)+dx fs bg) /\
    (∀j bg d m,bg.length=4->lV d m->LC fs bg m (b7 fs f j bg d)):=by
  have second:∀f,(∀x k bg d m,k<=(aj fs x).size->bg.length=4->lV d m->(aX fs f x k bg d).2.1.length=4/\dx fs (aX fs f x k bg d).2.1<=dx fs bg/\∃m',lV (aX fs f x k bg d).2.2 m'/\m'+dx fs (aX fs f x k bg d).2.1<=m+((aj fs x).size-k)+dx fs bg) ->
      (∀j bg d m,bg.length=4->lV d m->LC fs bg m (b7 fs f j bg d)):=by
    intro f h j bg d m hl hB;unfold b7
    split
    · exact⟨hl,Nat.le_refl _,m,hB,Nat.le_refl _⟩
    · next hb =>
      have hb':bg.getD j true=false:=by simpa using hb
      have hm:=ua fs bg j hl hb';have:=h j 0 (bg.set j true) d m (Nat.zero_le _) (by simpa using hl) hB;refine⟨this.1,by omega,?_⟩;obtain⟨m',q1,q2⟩:=this.2.2;exact⟨m',q1,by omega⟩
  induction f with
  | zero =>
    have h0:∀x k bg d m,k<=(aj fs x).size->bg.length=4->lV d m->(aX fs 0 x k bg d).2.1.length=4/\dx fs (aX fs 0 x k bg d).2.1<=dx fs bg/\∃m',lV (aX fs 0 x k bg d).2.2 m'/\m'+dx fs (aX fs 0 x k bg d).2.1<=m+((aj fs x).size-k)+dx fs bg:=by
      intro x k bg d m hk hl hB;exact⟨hl,Nat.le_refl _,m,hB,by simp only[aX];omega⟩
    exact⟨h0,second 0 h0⟩
  | succ f ih =>
    have h1:∀x k bg d m,k<=(aj fs x).size->bg.length=4->lV d m->(aX fs (f+1) x k bg d).2.1.length=4/\dx fs (aX fs (f+1) x k bg d).2.1<=dx fs bg/\∃m',lV (aX fs (f+1) x k bg d).2.2 m'/\m'+dx fs (aX fs (f+1) x k bg d).2.1<=m+((aj fs x).size-k)+dx fs bg:=by
      intro x k bg d m hk hl hB
      cases hw:aG (av (aj fs x) k).1 with
      | true =>
        have st:=zJ fs f ih.2 x k bg d m hk hl hB hw;obtain⟨⟨s1,s2,m1,s3,s4⟩,s5,s6⟩:=st
        cases h2:((fe fs f x k bg d).1.1.1==0) with
        | true =>
          rw[vO fs f x k bg d hw h2];obtain⟨r1,r2,m2,r3,r4⟩:=ih.1 x (fe fs f x k bg d).2 (fe fs f x k bg d).1.2.1 (fe fs f x k bg d).1.2.2 m1 s6 s1 s3;exact⟨r1,by omega,m2,r3,by omega⟩
        | false =>
          rw[mC fs f x k bg d hw h2];exact⟨s1,s2,m1,s3,by omega⟩
      | false =>
        by_cases h2:(av (aj fs x) k).1.fin=true/\je d=false
        · rw[xa fs f x k bg d hw h2.1 h2.2];exact⟨hl,Nat.le_refl _,m,hB,by simp only;omega⟩
        · rw[tP fs f x k bg d hw h2];exact⟨hl,Nat.le_refl _,m,hB,by simp only;omega⟩
    exact⟨h1,second (f+1) h1⟩
theorem u9(d:ByteArray)(k:Nat)(hd:d.size<=1024):(aQ d k).1.text.size<=1024:=by
  unfold aQ;generalize d.size-k+1=f
  induction f generalizing k with
  | zero=>simp[bP,ByteArray.size]
  | succ f ih =>
    rw[bP]
    split
    · split
      · simp[ByteArray.size]
      · exact ih _
    · split
      · simp[ByteArray.size]
      · exact oq d k hd
theorem pn(d:ByteArray)(k:Nat)(hd:d.size<=1024):(av d k).1.text.size<=1024:=by
  unfold av;generalize d.size-k+1=f
  induction f generalizing k with
  | zero=>simp[dg,ByteArray.size]
  | succ f ih =>
    rw[dg]
    split
    · split
      · exact ih _
      · exact u9 d _ hd
    · exact oq d k hd
theorem BO(d:Db)(x:ByteArray)(p:Pl):(aV d x p).2.proof=d.proof∨(aV d x p).2.proof=[]∨(aV d x p).2.proof=d.proof++[(x,p)]:=by
 unfold aV
 split
 ·left
  unfold ay
  split
  ·rfl
  ·split
   ·split
    ·rfl
    ·unfold cw;split <;> rfl
   ·split
    ·split <;> rfl
    ·split
     ·rfl
     ·split
      ·rfl
      ·split
       ·rfl
       ·unfold bH
        repeat' split
        all_goals rfl
 ·split
  ·left;unfold aJ
   repeat' split
   all_goals rfl
  ·split
   ·unfold kN
    split
    ·left;rfl
    ·split
     ·left;rfl
     ·right;left;rfl
   ·split
    ·left;unfold bY;split <;> rfl
    ·split
     ·left;rfl
     ·split
      ·right;right;rfl
      ·split
       ·left;rfl
       ·left;rfl
theorem zN(d:Db)(x:ByteArray)(p:Pl):(aV d x p).2.sts=d.sts∨(∃y∈d.rbl,(aV d x p).2.sts=jo d.sts y)∨((aV d x p).2.sts=d.sts++[⟨d.kind,d.label,d.symbols,d.proof,p,0⟩]/\0<d.symbols.length):=by
 unfold aV
 split
 ·unfold ay
  split
  ·left;rfl
  ·split
   ·split
    ·left;rfl
    ·unfold cw
     split
     ·left;rfl
     ·next y hy=>right;left;exact⟨y,List.mem_of_getLast? hy,rfl⟩
   ·split
    ·split <;> (left;rfl)
    ·split
     ·left;rfl
     ·split
      ·left;rfl
      ·split
       ·left;rfl
       ·left;unfold bH
        repeat' split
        all_goals rfl
 ·split
  ·left;unfold aJ
   repeat' split
   all_goals rfl
  ·split
   ·unfold kN
    split
    ·left;rfl
    ·next hl =>
     have hpos:0<d.symbols.length:=by
      unfold lj at hl
      split at hl <;> omega
     split
     ·left;rfl
     ·unfold bt
      split
      ·left;rfl
      ·split
       ·left;rfl
       ·right;right
        refine⟨?_,hpos⟩;unfold mX
        split <;> rfl
   ·split
    ·left;unfold bY;split <;> rfl
    ·split
     ·left;rfl
     ·split
      ·left;rfl
      ·split
       ·left;rfl
       ·left;rfl
theorem Ij(d:Db)(x:ByteArray)(p:Pl):(aV d x p).2.rbl=d.rbl∨(aV d x p).2.rbl=d.rbl.dropLast∨(aV d x p).2.rbl=d.rbl++[d.sts.length]:=by
 unfold aV
 split
 ·unfold ay
  split
  ·right;right;rfl
  ·split
   ·split
    ·left;rfl
    ·unfold cw
     split
     ·left;rfl
     ·right;left;rfl
   ·split
    ·split <;> (left;rfl)
    ·split
     ·left;rfl
     ·split
      ·left;rfl
      ·split
       ·left;rfl
       ·left;unfold bH
        repeat' split
        all_goals rfl
 ·left
  split
  ·unfold aJ
   repeat' split
   all_goals rfl
  ·split
   ·unfold kN
    split
    ·rfl
    ·split
     ·rfl
     ·unfold bt
      split
      ·rfl
      ·split
       ·rfl
       ·unfold mX;split <;> rfl
   ·split
    ·unfold bY;split <;> rfl
    ·split
     ·rfl
     ·split
      ·rfl
      ·split <;> rfl
structure Le(S:List St)(d:Db):Prop where
 pre:∃m,d.sts=S++m
 rbl:∀y∈d.rbl,S.length<=y
theorem Ax(S m:List St)(y:Nat)(h:S.length<=y):∃m',jo (S++m) y=S++m':=by
 refine⟨(jo (S++m) y).drop S.length,?_⟩
 have e:(jo (S++m) y).take S.length=S:=by
  apply List.ext_getElem?
  intro i;rw[List.getElem?_take]
  split
  ·next hi =>
   unfold jo eK;rw[List.getElem?_mapIdx,List.getElem?_append_left hi,List.getElem?_eq_getElem hi];rw[Option.map_some,if_neg (by omega)]
  ·rw[List.getElem?_eq_none];omega
 conv=>lhs;rw[<-List.take_append_drop S.length (jo (S++m) y),e]
theorem Le.take{S:List St}{d:Db}(h:Le S d)(x:ByteArray)(p:Pl):Le S (aV d x p).2:=by
 obtain⟨m,hm⟩:=h.pre;refine⟨?_,?_⟩
 ·rcases zN d x p with e | ⟨y,hy,e⟩ | ⟨e,_⟩
  ·exact⟨m,by rw[e,hm]⟩
  ·rw[e,hm];exact Ax S m y (h.rbl y hy)
  ·exact⟨m++[_],by rw[e,hm,List.append_assoc]⟩
 ·rcases Ij d x p with e | e | e
  ·rw[e];exact h.rbl
  ·rw[e];intro y hy;exact h.rbl y (List.dropLast_subset _ hy)
  ·rw[e]
   intro y hy
   rcases List.mem_append.1 hy with hy | hy
   ·exact h.rbl y hy
   ·rw[List.mem_singleton.1 hy,hm,List.length_append];omega
theorem Le.begin{d:Db}{m:Nat}(h:lV d m)(ho:je d=false):Le d.sts d:=by
 refine⟨⟨[],by simp⟩,fun y hy=>?_⟩;have hs:=h.same
 have hb:d.blocks.length=0:=by
  unfold je at ho;simp only[Bool.or_eq_false_iff,decide_eq_false_iff_not]at ho;omega
 rw[hb]at hs;rw[List.eq_nil_of_length_eq_zero hs]at hy
 cases hy
structure Rw where
 label:ByteArray
 verdict:Int
 why:Int
 at_:Pl
def lr(r:Rw):List Value:=[.string r.label,.int .i64 r.verdict,.int .i64 r.why,.string r.at_.file,.int .i64 r.at_.line,.int .i64 r.at_.col]
def jz(l:List Rw):List Value:=l.flatMap lr
def jF:Pl:=⟨⟨#[]⟩,0,0⟩
def nZ:Rw:=⟨⟨#[]⟩,0,0,jF⟩
theorem Lo:(Tryz.prog.info? 38).map (fun i=>(i.zero,i.size,i.bytes))=some (some (.agg #[.string ⟨#[]⟩,.int .i64 0,.int .i64 0,.string ⟨#[]⟩,.int .i64 0,.int .i64 0]),6,64):=by kernel_rfl
theorem zD(l:List Rw):(jz l).length=l.length*6:=by
 induction l with
 | nil=>rfl
 | cons x r ih =>
  have e:jz (x :: r)=lr x++jz r:=rfl;rw[e,List.length_append,ih];simp[lr];omega
theorem CX(l:List Rw)(k:Nat)(hk:k<l.length)(j:Nat)(hj:j<6):(jz l)[k*6+j]?=(lr l[k])[j]?:=by
 induction l generalizing k with
 | nil=>simp at hk
 | cons s r ih =>
  have e:jz (s :: r)=lr s++jz r:=rfl;rw[e]
  cases k with
  | zero=>rw[List.getElem?_append_left (by simp[lr];omega)];simp
  | succ k =>
   rw[List.getElem?_append_right (by simp[lr];omega)];have e2:(k+1)*6+j-(lr s).length=k*6+j:=by simp[lr];omega
   rw[e2,ih k (by simpa using hk)];rfl
def Fu(p:Pl):Prop:=-1000000000<=p.line/\p.line<=1000000000
def nu(w:World):Option Nat->List Rw->Prop
 | none,L=>L=[]
 | some g,L=>0<L.length/\w.heap[g]?=some (.cells (jz L).toArray 38 (0,0))
theorem nu.kept{w w':World}{o:Option Nat}{L:List Rw}{S:List Nat}(h:nu w o L)(k:ab S w w')(hS:∀g,o=some g->g∉S):nu w' o L:=by
 cases o with
 | none=>exact h
 | some g=>exact⟨h.1,k.get h.2 (hS g rfl)⟩
theorem nu.still{w w':World}{o:Option Nat}{L:List Rw}(h:nu w o L)(k:ab [] w w'):nu w' o L:=h.kept k (by simp)
theorem nu.lt{w:World}{o:Option Nat}{L:List Rw}(h:nu w o L)(g:Nat)(e:o=some g):g<w.heap.size:=by
 subst e;exact ae h.2
structure LJ(L:List Rw):Prop where
 len:L.length<=100000
 line:∀r∈L,Fu r.at_
theorem lF(t n:ByteArray)(r l c:Int)(f:Bool)(w:World) :
  Calls Tryz.prog 159 #[.agg #[.string t,.int .i64 r,.bool f,.string n,.int .i64 l,.int .i64 c]] w fun e w'=>e=.returned (.agg #[.int .i64 (if f=true then 7 else r),.string n,.int .i64 l,.int .i64 c])/\ab [] w w':=by
 cases f
 ·go_enter Tryz.func159,Tryz.ntmps159
  go_wp2;exact bodyPost_ret (v:=.agg #[.int .i64 r,.string n,.int .i64 l,.int .i64 c]) (by simp[results,Tryz.results159,go_sem]) rfl ⟨rfl,((ab.refl _ _).alloc _).alloc _⟩
 ·go_enter Tryz.func159,Tryz.ntmps159
  go_wp2;exact bodyPost_ret (v:=.agg #[.int .i64 7,.string n,.int .i64 l,.int .i64 c]) (by simp[results,Tryz.results159,go_sem]) rfl ⟨rfl,((ab.refl _ _).alloc _).alloc _⟩
def du(v:Nat)(bg:List Bool):List Value:=.pointer (some ⟨v,0,none⟩) :: bg.map Value.bool
theorem ik(v:Nat)(bg:List Bool)(h:bg.length=4):(du v bg).length=5:=by simp[du,h]
theorem aN.pre{w:World}{b t:Nat}{pre post:List Value}{d:Db}{H:Nat->Hd}(h:aN w b t pre post d H)(i:Nat)(hi:i<pre.length)(u:Value) :
  aN (w.setCell ⟨b,i,none⟩ u) b t (pre.set i u) post d H/\aw b w H (w.setCell ⟨b,i,none⟩ u) H:=by
 refine⟨⟨?_,?_,h.apart,h.off⟩,(dQ.refl _ _).setCell (Or.inl (Or.inl rfl)) _,fun _ hk=>Or.inl hk⟩
 ·rw[ah h.blk,List.setIfInBounds_toArray,List.set_append_left _ _ hi]
 ·intro j
  refine(h.own j).moved (fun k hk=>Below.heap_setCell _ _ _ _ ?_);rintro rfl;exact h.off j hk
theorem aN.preCell{w:World}{b t:Nat}{pre post:List Value}{d:Db}{H:Nat->Hd}(h:aN w b t pre post d H)(i:Nat)(hi:i<pre.length):w.cell? ⟨b,i,none⟩=pre[i]?:=by
 rw[aa h.blk];simp[List.getElem?_append_left hi]
def eQ(b sp:Nat)(w:World)(H:Nat->Hd)(w':World)(H':Nat->Hd):Prop :=
 dQ (fun k=>k=b∨k=sp∨fm H k) w w'/\∀k,fm H' k->fm H k∨w.heap.size<=k
theorem aw.moved{b:Nat}{w w':World}{H H':Nat->Hd}(sp:Nat)(t:aw b w H w' H'):eQ b sp w H w' H' :=
 ⟨⟨t.1.os,t.1.tape,t.1.output,t.1.size,fun k hk hn=>t.1.block k hk (fun e=>hn (e.elim Or.inl (fun e=>Or.inr (Or.inr e))))⟩,t.2⟩
theorem eQ.trans{b sp:Nat}{w0 w1 w2:World}{H0 H1 H2:Nat->Hd}(a:eQ b sp w0 H0 w1 H1)(c:eQ b sp w1 H1 w2 H2):eQ b sp w0 H0 w2 H2:=by
 refine⟨⟨c.1.os.trans a.1.os,c.1.tape.trans a.1.tape,c.1.output.trans a.1.output,Nat.le_trans a.1.size c.1.size,?_⟩,?_⟩
 ·intro k hk hn
  rw[<-a.1.block k hk hn];refine c.1.block k (Nat.lt_of_lt_of_le hk a.1.size) ?_;rintro (e | e | hm)
  ·exact hn (Or.inl e)
  ·exact hn (Or.inr (Or.inl e))
  ·rcases a.2 k hm with h | h
   ·exact hn (Or.inr (Or.inr h))
   ·omega
 ·intro k hk
  rcases c.2 k hk with h | h
  ·exact a.2 k h
  ·exact Or.inr (Nat.le_trans a.1.size h)
theorem eQ.refl(b sp:Nat)(w:World)(H:Nat->Hd):eQ b sp w H w H:=⟨dQ.refl _ _,fun _ hk=>Or.inl hk⟩
theorem eQ.still{b sp:Nat}{w0 w1 w2:World}{H0 H1:Nat->Hd}(a:eQ b sp w0 H0 w1 H1)(c:ab [] w1 w2):eQ b sp w0 H0 w2 H1 :=
 a.trans ⟨c.toP (by simp),fun _ hk=>Or.inl hk⟩
theorem eQ.first{b sp:Nat}{w0 w1 w2:World}{H0 H1:Nat->Hd}(c:ab [] w0 w1)(a:eQ b sp w1 H0 w2 H1):eQ b sp w0 H0 w2 H1 :=
 eQ.trans ⟨c.toP (by simp),fun _ hk=>Or.inl hk⟩ a
theorem eQ.scan{b sp:Nat}{w0 w1 w2:World}{H0 H1:Nat->Hd}(a:eQ b sp w0 H0 w1 H1)(c:ab [sp] w1 w2):eQ b sp w0 H0 w2 H1 :=
 a.trans ⟨c.toP (by intro k hk _;simp at hk;exact Or.inr (Or.inl hk)),fun _ hk=>Or.inl hk⟩
theorem eQ.beyond{b sp:Nat}{w wr w':World}{H H1:Nat->Hd}{S:List Nat}(T:eQ b sp w H wr H1)(k:ab S wr w')(hS:∀x,x∈S->w.heap.size<=x):eQ b sp w H w' H1 :=
 ⟨⟨k.os.trans T.1.os,k.tape.trans T.1.tape,k.output.trans T.1.output,Nat.le_trans T.1.size k.size,fun i hi hn=>by
  rw[<-T.1.block i hi hn];exact k.block i (Nat.lt_of_lt_of_le hi T.1.size) (fun hm=>by have:=hS i hm;omega)⟩,T.2⟩
theorem eQ.fresh{b sp:Nat}{w w2:World}{H H2:Nat->Hd}(T:eQ b sp w H w2 H2)(F:Nat)(h1:F<w.heap.size)(h2:¬fm H F):¬fm H2 F:=by
 intro hm
 rcases T.2 F hm with h | h
 ·exact h2 h
 ·omega
theorem aw.fresh{b:Nat}{w w2:World}{H H2:Nat->Hd}(T:aw b w H w2 H2)(F:Nat)(h1:F<w.heap.size)(h2:¬fm H F):¬fm H2 F:=by
 intro hm
 rcases T.2 F hm with h | h
 ·exact h2 h
 ·omega
theorem ig{w:World}{r:Nat}(a0 a1 a2 a3:Value):ab [r] w ((((w.setCell ⟨r,0,none⟩ a0).setCell ⟨r,1,none⟩ a1).setCell ⟨r,2,none⟩ a2).setCell ⟨r,3,none⟩ a3) :=
 ((((ab.refl _ _).setCell (Or.inl (by simp)) _).setCell (Or.inl (by simp)) _).setCell (Or.inl (by simp)) _).setCell (Or.inl (by simp)) _
theorem Bv{w:World}{r:Nat}(a0 a1 a2 a3 a4 a5:Value):ab [r] w ((((((w.setCell ⟨r,0,none⟩ a0).setCell ⟨r,1,none⟩ a1).setCell ⟨r,2,none⟩ a2).setCell ⟨r,3,none⟩ a3).setCell ⟨r,4,none⟩ a4).setCell ⟨r,5,none⟩ a5) :=
 ((((((ab.refl _ _).setCell (Or.inl (by simp)) _).setCell (Or.inl (by simp)) _).setCell (Or.inl (by simp)) _).setCell (Or.inl (by simp)) _).setCell (Or.inl (by simp)) _).setCell (Or.inl (by simp)) _
def a9:Array Value:=#[.int .i64 0,.string ⟨#[]⟩,.int .i64 0,.int .i64 0]
theorem bR{w:World}{r:Nat}(h:w.heap[r]?=some (.cells a9 87 (0,0))) :
  w.cell? ⟨r,0,none⟩=some (.int .i64 0)/\w.cell? ⟨r,1,none⟩=some (.string ⟨#[]⟩)/\w.cell? ⟨r,2,none⟩=some (.int .i64 0)/\w.cell? ⟨r,3,none⟩=some (.int .i64 0):=by
 refine⟨?_,?_,?_,?_⟩ <;> (rw[aa h];rfl)
theorem l4{w w2:World}{b t F:Nat}{pre post:List Value}{d:Db}{H H2:Nat->Hd}(D:aN w2 b t pre post d H2)(T:aw b w H w2 H2)(h1:w.heap.size<=F)(h2:b≠F)(h3:¬fm H2 F)(a0 a1 a2 a3:Value) :
  aN ((((w2.setCell ⟨F,0,none⟩ a0).setCell ⟨F,1,none⟩ a1).setCell ⟨F,2,none⟩ a2).setCell ⟨F,3,none⟩ a3) b t pre post d H2 /\
  aw b w H ((((w2.setCell ⟨F,0,none⟩ a0).setCell ⟨F,1,none⟩ a1).setCell ⟨F,2,none⟩ a2).setCell ⟨F,3,none⟩ a3) H2:=by
 refine⟨D.kept (ig _ _ _ _) (by simpa using h2) (fun x hx=>by simp;rintro rfl;exact h3 hx),?_,T.2⟩;exact(((T.1.setCell (Or.inr h1) _).setCell (Or.inr h1) _).setCell (Or.inr h1) _).setCell (Or.inr h1) _
set_option maxRecDepth 100000 in
theorem rd(b t:Nat)(v:Nat)(bg:List Bool)(hbg:bg.length=4)(d:Db)(H:Nat->Hd)(sp:Value)(x n:ByteArray)(l c:Int)(w:World)(h:aN w b t (du v bg) [] d H)(hs:eR d 10000000)(hx:x.size<=1073741824)(hi:xT d 100000000)
  (hn:(x.toList == [36,91])=false) :
  Calls Tryz.prog 157 #[.pointer (some ⟨b,0,none⟩),sp,.agg #[.string x,.int .i64 0,.bool false,.string n,.int .i64 l,.int .i64 c]] w fun e w' =>
   e=.returned (gu (if((aV d x ⟨n,l,c⟩).1==0)=true then cJ else((aV d x ⟨n,l,c⟩).1,⟨n,l,c⟩))) /\
   ∃H',aN w' b t (du v bg) [] (aV d x ⟨n,l,c⟩).2 H'/\aw b w H w' H':=by
 have hbw:=h.lt;have TK:=fun(w':World) (h':aN w' b t (du v bg) [] d H)=>Ig b t 5 (du v bg) [] d H x n l c w' h' (ik v bg hbg) hs hx hi
 unfold fT at TK;have HTK:=(show Hid _ from TK);clear TK;generalize aV d x ⟨n,l,c⟩=td at *;obtain⟨r,d'⟩:=td;simp only at HTK;obtain⟨W,hW⟩:∃W,W=((w.alloc (.cells #[.string x,.int .i64 0,.bool false,.string n,.int .i64 l,.int .i64 c] 255)).alloc (.cells #[.int .i64 0,.string ⟨#[]⟩,.int .i64 0,.int .i64 0] 87)):=⟨_,rfl⟩
 have hK:ab [] w W:=by rw[hW];exact((ab.refl [] w).alloc _).alloc _
 have hD:aN W b t (du v bg) [] d H:=h.still hK
 have hI:W.heap[w.heap.size]?=some (.cells #[.string x,.int .i64 0,.bool false,.string n,.int .i64 l,.int .i64 c] 255 (0,0)):=by
  rw[hW];exact((ab.refl [] _).alloc _).get (heap_alloc_new _ _) (by simp)
 have hF:W.heap[w.heap.size+1]?=some (.cells a9 87 (0,0)):=by
  rw[hW];have:=heap_alloc_new (w.alloc (.cells #[.string x,.int .i64 0,.bool false,.string n,.int .i64 l,.int .i64 c] 255)) (.cells #[.int .i64 0,.string ⟨#[]⟩,.int .i64 0,.int .i64 0] 87);simpa [a9] using this
 have HNO:Hid (∀k,w.heap.size<=k->¬(k=b∨fm H k)):=by
  rintro k hk (e | hm)
  ·omega
  ·have:=h.inlt hm;omega
 have HW:=(show Hid _ from hW.symm);clear hW h;have i0:W.cell? ⟨w.heap.size,0,none⟩=some (.string x):=by rw[aa hI];rfl
 have i3:W.cell? ⟨w.heap.size,3,none⟩=some (.string n):=by rw[aa hI];rfl
 have i4:W.cell? ⟨w.heap.size,4,none⟩=some (.int .i64 l):=by rw[aa hI];rfl
 have i5:W.cell? ⟨w.heap.size,5,none⟩=some (.int .i64 c):=by rw[aa hI];rfl
 have HAF:=(show Hid _ from fun(w2:World) (H2:Nat->Hd) (D2:aN w2 b t (du v bg) [] d' H2) (T2:aw b W.drew H w2 H2) (a0 a1 a2 a3:Value) =>
  l4 D2 ((T2.first (ab.refl [] W).drew).first hK) (F:=w.heap.size+1) (by omega) (by omega) (T2.fresh (w.heap.size+1) (by exact ae hF) (fun hm=>HNO.out (w.heap.size+1) (by omega) (Or.inr hm))) a0 a1 a2 a3)
 have HCE:=(show Hid _ from fun(w2:World) (H2:Nat->Hd) (T2:aw b W.drew H w2 H2)=>(show _/\_ from⟨T2.1.get (by exact hI) (HNO.out _ (Nat.le_refl _)),T2.1.get (by exact hF) (HNO.out _ (by omega))⟩))
 have CE:∀(w2:World) (H2:Nat->Hd) (_:aw b W.drew H w2 H2),w2.cell? ⟨w.heap.size,0,none⟩=some (.string x)/\w2.cell? ⟨w.heap.size,3,none⟩=some (.string n)/\w2.cell? ⟨w.heap.size,4,none⟩=some (.int .i64 l)/\w2.cell? ⟨w.heap.size,5,none⟩=some (.int .i64 c):=by
  intro w2 H2 T2;have hI2:=(HCE.out w2 H2 T2).1;refine⟨?_,?_,?_,?_⟩ <;> (rw[aa hI2];rfl)
 have HCC:=(show Hid _ from CE);clear CE;go_enter Tryz.func157,Tryz.ntmps157
 go_upto_region 1 with fail
 rw[HW.out]
 go_upto_region 3 with fail
 cases hr:(r==0)
 ·have hr':(r != 0)=true:=by simp[bne,hr]
  go_region_held3 (fun w'=>w'.cell? ⟨w.heap.size,0,none⟩=some (.string x)/\w'.cell? ⟨w.heap.size,3,none⟩=some (.string n)/\w'.cell? ⟨w.heap.size,4,none⟩=some (.int .i64 l)/\w'.cell? ⟨w.heap.size,5,none⟩=some (.int .i64 c)) (go_keep) (first | (go_at_call 206;refine(HTK.out _ (by exact hD.still (ab.refl [] _).drew)).mono ?_;rintro e w2 ⟨rfl,H2,D2,T2⟩;obtain⟨r0,r3,r4,r5⟩:=HCC.out w2 H2 T2))
  all_goals
   have hF2:=(HCE.out w2 H2 T2).2;have HA':=(show Hid _ from HAF.out w2 H2 D2 T2);obtain⟨j0,j1,j2,j3⟩:=bR hF2;have y:=ak hF2;go_wp2
   exact bodyPost_ret (v:=.agg #[.int .i64 r,.string n,.int .i64 l,.int .i64 c]) (by simp[results,Tryz.results157,go_sem,j0,j1,j2,j3]) rfl
    ⟨rfl,H2,(HA'.out _ _ _ _).1,(HA'.out _ _ _ _).2⟩
 ·have hr':(r != 0)=false:=by simp[bne,hr]
  go_region_held3 (fun w'=>w'.cell? ⟨w.heap.size,0,none⟩=some (.string x)/\w'.cell? ⟨w.heap.size,3,none⟩=some (.string n)/\w'.cell? ⟨w.heap.size,4,none⟩=some (.int .i64 l)/\w'.cell? ⟨w.heap.size,5,none⟩=some (.int .i64 c)) (go_keep) (first | (go_at_call 206;refine(HTK.out _ (by exact hD.still (ab.refl [] _).drew)).mono ?_;rintro e w2 ⟨rfl,H2,D2,T2⟩;obtain⟨r0,r3,r4,r5⟩:=HCC.out w2 H2 T2))
  all_goals
   have hF2:=(HCE.out w2 H2 T2).2;have HA':=(show Hid _ from HAF.out w2 H2 D2 T2);obtain⟨j0,j1,j2,j3⟩:=bR hF2;have y:=ak hF2;go_wp2
   exact bodyPost_ret (v:=.agg #[.int .i64 0,.string ⟨#[]⟩,.int .i64 0,.int .i64 0]) (by simp[results,Tryz.results157,go_sem,j0,j1,j2,j3]) rfl
    ⟨rfl,H2,(HA'.out _ _ _ _).1,(HA'.out _ _ _ _).2⟩
def iD(b v:Nat)(fs:Fs)(f j:Nat)(bg:List Bool)(d:Db)(H:Nat->Hd)(w:World):Prop :=
 Calls Tryz.prog 111 #[.pointer (some ⟨b,0,none⟩),.int .i64 j] w fun e w'=>e=.returned (gu (b7 fs f j bg d).1)/\∃H',aN w' b 200 (du v (b7 fs f j bg d).2.1) [] (b7 fs f j bg d).2.2 H'/\aw b w H w' H'
theorem jb{w w2:World}{b t sp F:Nat}{pre post:List Value}{d:Db}{H H2:Nat->Hd}(D:aN w2 b t pre post d H2)(T:eQ b sp w H w2 H2)(h1:w.heap.size<=F)(h2:b≠F)(h3:¬fm H2 F)(a0 a1 a2 a3:Value) :
  aN ((((w2.setCell ⟨F,0,none⟩ a0).setCell ⟨F,1,none⟩ a1).setCell ⟨F,2,none⟩ a2).setCell ⟨F,3,none⟩ a3) b t pre post d H2 /\
  eQ b sp w H ((((w2.setCell ⟨F,0,none⟩ a0).setCell ⟨F,1,none⟩ a1).setCell ⟨F,2,none⟩ a2).setCell ⟨F,3,none⟩ a3) H2 :=
 ⟨D.kept (ig _ _ _ _) (by simpa using h2) (fun x hx=>by simp;rintro rfl;exact h3 hx),T.beyond (ig _ _ _ _) (by simpa using h1)⟩
theorem oL(n s:ByteArray)(t:ByteArray)(u:Int)(f:Bool)(p:Nat):gu (gF n s ⟨t,u,f,p⟩)=.agg #[.int .i64 (if f=true then 7 else u),.string n,.int .i64 (aL s p),.int .i64 (aW s p)]:=rfl
structure pF(w w':World)(b v tt sp z:Nat)(fs:Fs)(more:List Value)(bg:List Bool)(d:Db)(H:Nat->Hd)(n s:ByteArray):Prop where
 D:aN w' b 200 (du v bg) [] d H
 TB:bm w' v tt fs more
 SC:bN w' sp n s z
 F:w'.heap[w.heap.size+1]?=some (.cells a9 87 (0,0))
 M:eQ b sp w H w' H
theorem pF.still{w w1 w2:World}{b v tt sp z:Nat}{fs:Fs}{more:List Value}{bg:List Bool}{d:Db}{H:Nat->Hd}{n s:ByteArray}(S:pF w w1 b v tt sp z fs more bg d H n s)(k:ab [] w1 w2):pF w w2 b v tt sp z fs more bg d H n s :=
 ⟨S.D.still k,S.TB.kept k (by simp),S.SC.kept k (by simp),k.get S.F (by simp),S.M.still k⟩
theorem pF.next{w w1 w2:World}{b v tt sp z z':Nat}{fs:Fs}{more:List Value}{bg:List Bool}{d:Db}{H:Nat->Hd}{n s:ByteArray}(S:pF w w1 b v tt sp z fs more bg d H n s)(k:ab [sp] w1 w2)(SC:bN w2 sp n s z')
  (h1:sp≠b) (h2:v≠sp) (h3:¬fm H sp) (h4:sp<w.heap.size):pF w w2 b v tt sp z' fs more bg d H n s :=
 ⟨S.D.kept k (by simpa using fun e=>h1 e.symm) (by intro x hx;simp;rintro rfl;exact h3 hx),S.TB.kept k (by simpa using h2),SC,k.get S.F (by simp;omega),S.M.scan k⟩
set_option maxRecDepth 100000 in
theorem yS(b v tt sp f x z:Nat)(fs:Fs)(more:List Value)(bg:List Bool)(hbg:bg.length=4)(d:Db)(H:Nat->Hd)(n s:ByteArray)(l c:Int)(w:World)
  (h:aN w b 200 (du v bg) [] d H) (hn:aC fs x=n) (hsd:aj fs x=s) (hs:s.size<=1024) (hz:z<=s.size) (hsc:bN w sp n s z) (ht:bm w v tt fs more)
  (hspb:sp≠b) (hvs:v≠sp) (hsi:¬fm H sp)
  (RF:Hid (∀(j:Nat) (w':World),j<fs.length->aN w' b 200 (du v bg) [] d H->bm w' v tt fs more->iD b v fs f j bg d H w')) :
  Calls Tryz.prog 205 #[.pointer (some ⟨b,0,none⟩),.pointer (some ⟨sp,0,none⟩),.agg #[.string n,.int .i64 l,.int .i64 c]] w fun e w' =>
   e=.returned (gu (lC (b7 fs f) fs x z ⟨n,l,c⟩ bg d).1.1)/\∃H',aN w' b 200 (du v (lC (b7 fs f) fs x z ⟨n,l,c⟩ bg d).1.2.1) [] (lC (b7 fs f) fs x z ⟨n,l,c⟩ bg d).1.2.2 H'/\eQ b sp w H w' H' /\
    (((lC (b7 fs f) fs x z ⟨n,l,c⟩ bg d).1.1.1==0)=true->bN w' sp n s (lC (b7 fs f) fs x z ⟨n,l,c⟩ bg d).2):=by
 obtain⟨W,hW⟩:∃W,W=((w.alloc (.cells #[.string n,.int .i64 l,.int .i64 c] 36)).alloc (.cells #[.int .i64 0,.string ⟨#[]⟩,.int .i64 0,.int .i64 0] 87)):=⟨_,rfl⟩
 have hK:ab [] w W:=by rw[hW];exact((ab.refl [] w).alloc _).alloc _
 have hbw:=h.lt;have hspw:=ae hsc;have hvw:=ht.lt;have D:aN W b 200 (du v bg) [] d H:=h.still hK;have SC:bN W sp n s z:=hsc.kept hK (by simp);have TB:bm W v tt fs more:=ht.kept hK (by simp)
 have hP:W.heap[w.heap.size]?=some (.cells #[.string n,.int .i64 l,.int .i64 c] 36 (0,0)):=by
  rw[hW];exact((ab.refl [] _).alloc _).get (heap_alloc_new _ _) (by simp)
 have hF:W.heap[w.heap.size+1]?=some (.cells a9 87 (0,0)):=by
  rw[hW];have:=heap_alloc_new (w.alloc (.cells #[.string n,.int .i64 l,.int .i64 c] 36)) (.cells #[.int .i64 0,.string ⟨#[]⟩,.int .i64 0,.int .i64 0] 87);simpa [a9] using this
 have HNI:Hid (∀k,w.heap.size<=k->¬fm H k):=fun k hk hm=>by have:=h.inlt hm;omega
 have HW:=(show Hid _ from hW.symm);have hW2:=ae hF;have MK:Hid (eQ b sp w H W H):=(eQ.refl b sp w H).still hK;clear hW h hsc ht;have HI:Hid (lC (b7 fs f) fs x z ⟨n,l,c⟩ bg d=match ph fs x z ⟨n,l,c⟩ d with | .inl q=>((q,bg,d),z) | .inr (j,z')=>(b7 fs f j bg d,z')):=rfl;have HJ:Hid (ph fs x z ⟨n,l,c⟩ d=_):=(show ph fs x z ⟨n,l,c⟩ d=_ from by unfold ph;rw[hn,hsd])
 cases ho:je d
 ·have nl1:=eN s z hz
  have tx1:=pn s z hs;have nl2:=eN s (av s z).2 nl1.2.1;have hfl:=nE (av s z).1.text fs;generalize hr1:av s z=r1 at *;obtain⟨⟨t1,u1,f1,p1⟩,z1⟩:=r1;simp only at nl1 tx1 nl2 hfl HJ;have tx2:=pn s z1 hs;generalize hr2:av s z1=r2 at *;obtain⟨⟨t2,u2,f2,p2⟩,z2⟩:=r2;simp only at nl2 tx2 HJ;rw[ho]at HJ;have S0:pF w W b v tt sp z fs more bg d H n s:=⟨D,TB,SC,hF,MK.out⟩;go_enter Tryz.func205,Tryz.ntmps205
  go_upto_region 1 with fail
  rw[HW.out];go_wp2_with fail;refine(qd b 200 5 (du v bg) [] d H _ D (ik v bg hbg)).mono ?_;rintro e w1 ⟨rfl,hw1⟩;subst hw1;rw[ho];go_wp2_with fail;refine(qc sp z n s _ hs hz SC).mono ?_;rintro e w2 ⟨rfl,SC2,hk2⟩;rw[hr1]at SC2 ⊢;simp only[ew]at SC2 ⊢;have S2:=S0.next hk2 SC2 hspb hvs hsi hspw;obtain⟨W3,hW3⟩:∃W3,W3=w2.alloc (.cells #[.string t1,.int .i64 u1,.bool f1,.string n,.int .i64 (aL s p1),.int .i64 (aW s p1)] 255):=⟨_,rfl⟩
  have HW3:=(show Hid _ from hW3.symm);have S3:pF w W3 b v tt sp z1 fs more bg d H n s:=by rw[hW3];exact S2.still ((ab.refl [] _).alloc _)
  have I3:iq W3 w2.heap.size n s ⟨t1,u1,f1,p1⟩:=by rw[hW3];exact heap_alloc_new _ _
  clear hW3 S0 S2 SC2 hk2 D TB SC hP hF hK HW hr1
  go_upto_region 4 with fail
  rw[HW3.out];clear HW3;obtain⟨a0,a1,a2,a3,a4,a5⟩:=I3.cells;go_wp2_with fail;refine(cr t1 n u1 (aL s p1) (aW s p1) f1 _).mono ?_;rintro e w4 ⟨rfl,hk4⟩;have S4:=S3.still hk4;have I4:=I3.kept hk4 (by simp);clear a0 a1 a2 a3 a4 a5 S3 I3 hk4;obtain⟨a0,a1,a2,a3,a4,a5⟩:=I4.cells;have hb2:=ae I4;have hF4w:=ae S4.F
  cases hw1:(u1==0 && !f1)
  ·have HT:Hid (lC (b7 fs f) fs x z ⟨n,l,c⟩ bg d=((gF n s ⟨t1,u1,f1,p1⟩,bg,d),z)):=by
    show _=_;rw[HI.out,HJ.out];simp[aG,hw1]
   clear HI HJ;go_wp2_with fail;refine(lF t1 n u1 (aL s p1) (aW s p1) f1 _).mono ?_;rintro e w5 ⟨rfl,hk5⟩;obtain⟨q,hq⟩:∃q:Int,Hid ((if f1=true then(7:Int) else u1)=q):=⟨_,rfl⟩
   rw[hq.out];have S5:=S4.still hk5;obtain⟨j0,j1,j2,j3⟩:=bR S5.F;have y:=ak S5.F;have HA':=(show Hid _ from fun a0 a1 a2 a3=>jb S5.D S5.M (F:=w.heap.size+1) (by omega) (by omega) (HNI.out _ (by omega)) a0 a1 a2 a3);clear a0 a1 a2 a3 a4 a5;go_wp2
   exact bodyPost_ret (v:=.agg #[.int .i64 q,.string n,.int .i64 (aL s p1),.int .i64 (aW s p1)]) (by simp[results,Tryz.results205,go_sem,j0,j1,j2,j3]) rfl
    ⟨by rw[HT.out,oL,hq.out],H,by rw[HT.out];exact(HA'.out _ _ _ _).1,(HA'.out _ _ _ _).2,by
     rw[HT.out];intro hh
     exfalso
     simp only[gF]at hh
     cases f1
     ·simp at hw1 hh;exact hw1 hh
     ·simp at hh⟩
  ·have hu1:u1=0:=by simp at hw1;exact hw1.1
   have hf1:f1=false:=by simp at hw1;exact hw1.2
   subst hu1 hf1
   cases hd1:dw t1
   ·have b0:w4.cell? ⟨b,0,none⟩=some (.pointer (some ⟨v,0,none⟩)):=S4.D.preCell 0 (by simp[du])
    rcases hfl with hneg | ⟨j,hj,hjf⟩
    ·have HT:Hid (lC (b7 fs f) fs x z ⟨n,l,c⟩ bg d=(((6,jx n s p1),bg,d),z)):=by
      show _=_;rw[HI.out,HJ.out];simp[aG,hd1,hneg]
     clear HI HJ
     go_upto_region 8 with (go_at_call 231;refine(dD t1 _ (by omega)).mono ?_;rintro e w5 ⟨rfl,rfl⟩)
     go_quiet ((go_at_call 50;exact Calls.quiet_of_same (kl v tt fs more t1 _ (S4.still ((ab.refl [] _).drewN _)).TB)))
     have S5:=S4.still ((ab.refl [] _).drewN nq);rw[hneg];obtain⟨j0,j1,j2,j3⟩:=bR S4.F;have y:=ak S4.F;have HA':=(show Hid _ from fun a0 a1 a2 a3=>jb S5.D S5.M (F:=w.heap.size+1) (by omega) (by omega) (HNI.out _ (by omega)) a0 a1 a2 a3);go_wp2
     exact bodyPost_ret (v:=.agg #[.int .i64 6,.string n,.int .i64 (aL s p1),.int .i64 (aW s p1)]) (by simp[results,Tryz.results205,go_sem,j0,j1,j2,j3]) rfl
      ⟨by rw[HT.out];rfl,H,by rw[HT.out];exact(HA'.out _ _ _ _).1,(HA'.out _ _ _ _).2,by rw[HT.out];intro hh;cases hh⟩
    ·go_upto_region 8 with (go_at_call 231;refine(dD t1 _ (by omega)).mono ?_;rintro e w5 ⟨rfl,rfl⟩)
     go_quiet ((go_at_call 50;exact Calls.quiet_of_same (kl v tt fs more t1 _ (S4.still ((ab.refl [] _).drewN _)).TB)))
     rw[hjf];have S5:=S4.still ((ab.refl [] _).drewN nq);go_wp2_with fail;refine(qc sp z1 n s _ hs nl1.2.1 S5.SC).mono ?_;rintro e w6 ⟨rfl,SC6,hk6⟩;rw[hr2]at SC6 ⊢;simp only[ew]at SC6 ⊢;have S6:=S5.next hk6 SC6 hspb hvs hsi hspw;obtain⟨W7,hW7⟩:∃W7,W7=w6.alloc (.cells #[.string t2,.int .i64 u2,.bool f2,.string n,.int .i64 (aL s p2),.int .i64 (aW s p2)] 255):=⟨_,rfl⟩
     have HW7:=(show Hid _ from hW7.symm);have S7:pF w W7 b v tt sp z2 fs more bg d H n s:=by rw[hW7];exact S6.still ((ab.refl [] _).alloc _)
     have I7:iq W7 w6.heap.size n s ⟨t2,u2,f2,p2⟩:=by rw[hW7];exact heap_alloc_new _ _
     clear hW7 S4 S5 S6 SC6 hk6 I4 a0 a1 a2 a3 a4 a5 b0
     go_upto_region 12 with fail
     rw[HW7.out];clear HW7;obtain⟨a0,a1,a2,a3,a4,a5⟩:=I7.cells;go_wp2_with fail;refine(cr t2 n u2 (aL s p2) (aW s p2) f2 _).mono ?_;rintro e w8 ⟨rfl,hk8⟩;have S8:=S7.still hk8;have I8:=I7.kept hk8 (by simp);clear a0 a1 a2 a3 a4 a5 S7 I7 hk8;obtain⟨a0,a1,a2,a3,a4,a5⟩:=I8.cells;have hb8:=ae I8;have hF8w:=ae S8.F;have hjn:¬((j:Int)<0):=by omega
     cases hw2:(u2==0 && !f2)
     ·have HT:Hid (lC (b7 fs f) fs x z ⟨n,l,c⟩ bg d=((gF n s ⟨t2,u2,f2,p2⟩,bg,d),z)):=by
       show _=_;rw[HI.out,HJ.out,hjf];simp[aG,hd1,hw2,hjn]
      clear HI HJ;go_wp2_with fail;refine(lF t2 n u2 (aL s p2) (aW s p2) f2 _).mono ?_;rintro e w9 ⟨rfl,hk9⟩;obtain⟨q,hq⟩:∃q:Int,Hid ((if f2=true then(7:Int) else u2)=q):=⟨_,rfl⟩
      rw[hq.out];have S9:=S8.still hk9;obtain⟨j0,j1,j2,j3⟩:=bR S9.F;have y:=ak S9.F;have HA':=(show Hid _ from fun a0 a1 a2 a3=>jb S9.D S9.M (F:=w.heap.size+1) (by omega) (by omega) (HNI.out _ (by omega)) a0 a1 a2 a3);clear a0 a1 a2 a3 a4 a5;go_wp2
      exact bodyPost_ret (v:=.agg #[.int .i64 q,.string n,.int .i64 (aL s p2),.int .i64 (aW s p2)]) (by simp[results,Tryz.results205,go_sem,j0,j1,j2,j3]) rfl
       ⟨by rw[HT.out,oL,hq.out],H,by rw[HT.out];exact(HA'.out _ _ _ _).1,(HA'.out _ _ _ _).2,by
        rw[HT.out];intro hh
        exfalso
        simp only[gF]at hh
        cases f2
        ·simp at hw2 hh;exact hw2 hh
        ·simp at hh⟩
     ·have hu2:u2=0:=by simp at hw2;exact hw2.1
      have hf2:f2=false:=by simp at hw2;exact hw2.2
      subst hu2 hf2
      cases he2:(t2.toList == [36,93])
      ·have HT:Hid (lC (b7 fs f) fs x z ⟨n,l,c⟩ bg d=(((5,jx n s p2),bg,d),z)):=by
        show _=_;rw[HI.out,HJ.out,hjf];simp[aG,hd1,he2,hjn]
       clear HI HJ;obtain⟨j0,j1,j2,j3⟩:=bR S8.F;have y:=ak S8.F;have HA':=(show Hid _ from fun a0 a1 a2 a3=>jb S8.D S8.M (F:=w.heap.size+1) (by omega) (by omega) (HNI.out _ (by omega)) a0 a1 a2 a3);go_wp2
       exact bodyPost_ret (v:=.agg #[.int .i64 5,.string n,.int .i64 (aL s p2),.int .i64 (aW s p2)]) (by simp[results,Tryz.results205,go_sem,j0,j1,j2,j3]) rfl
        ⟨by rw[HT.out];rfl,H,by rw[HT.out];exact(HA'.out _ _ _ _).1,(HA'.out _ _ _ _).2,by rw[HT.out];intro hh;cases hh⟩
      ·have HT:Hid (lC (b7 fs f) fs x z ⟨n,l,c⟩ bg d=(b7 fs f j bg d,z2)):=by
        show _=_;rw[HI.out,HJ.out,hjf];simp[aG,hd1,he2,hjn]
       clear HI HJ;have RJ:=RF.out j w8 hj S8.D S8.TB;unfold iD at RJ;have HRJ:=(show Hid _ from RJ);clear RJ RF;generalize b7 fs f j bg d=R at *;obtain⟨⟨r,pf,pl,pc⟩,bg',d'⟩:=R;simp only[gu]at HRJ;go_wp2_with fail;refine Calls.mono HRJ.out ?_;rintro e w9 ⟨rfl,H9,D9,T9⟩;have F9:=T9.1.get S8.F (by rintro (e | e);omega;exact HNI.out _ (by omega) e);have SC9:bN w9 sp n s z2:=T9.1.get S8.SC (by rintro (e | e);exact hspb e;exact hsi e);obtain⟨j0,j1,j2,j3⟩:=bR F9;have y:=ak F9;have HA':=(show Hid _ from fun a0 a1 a2 a3=>jb D9 (S8.M.trans (T9.moved sp)) (F:=w.heap.size+1) (by omega) (by omega) (T9.fresh _ hF8w (HNI.out _ (by omega))) a0 a1 a2 a3);have HSC:=(show Hid _ from fun a0 a1 a2 a3=>SC9.kept (ig (r:=w.heap.size+1) a0 a1 a2 a3) (by simp;omega));clear a0 a1 a2 a3 a4 a5;go_wp2
       exact bodyPost_ret (v:=.agg #[.int .i64 r,.string pf,.int .i64 pl,.int .i64 pc]) (by simp[results,Tryz.results205,go_sem,j0,j1,j2,j3]) rfl
        ⟨by rw[HT.out];rfl,H9,by rw[HT.out];exact(HA'.out _ _ _ _).1,(HA'.out _ _ _ _).2,by rw[HT.out];exact fun _=>HSC.out _ _ _ _⟩
   ·have HT:Hid (lC (b7 fs f) fs x z ⟨n,l,c⟩ bg d=(((5,jx n s p1),bg,d),z)):=by
     show _=_;rw[HI.out,HJ.out];simp[aG,hd1]
    clear HI HJ;obtain⟨j0,j1,j2,j3⟩:=bR S4.F;have y:=ak S4.F;have HA':=(show Hid _ from fun a0 a1 a2 a3=>jb S4.D S4.M (F:=w.heap.size+1) (by omega) (by omega) (HNI.out _ (by omega)) a0 a1 a2 a3);go_wp2_with (go_at_call 231;refine(dD t1 _ (by omega)).mono ?_;rintro e w5 ⟨rfl,rfl⟩)
    exact bodyPost_ret (v:=.agg #[.int .i64 5,.string n,.int .i64 (aL s p1),.int .i64 (aW s p1)]) (by simp[results,Tryz.results205,go_sem,j0,j1,j2,j3]) rfl
     ⟨by rw[HT.out];rfl,H,by rw[HT.out];exact(HA'.out _ _ _ _).1,(HA'.out _ _ _ _).2,by rw[HT.out];intro hh;cases hh⟩
 ·have HT:Hid (lC (b7 fs f) fs x z ⟨n,l,c⟩ bg d=(((4,⟨n,l,c⟩),bg,d),z)):=by
   show _=_;rw[HI.out,HJ.out,ho];simp
  clear HI HJ;have i0:W.cell? ⟨w.heap.size,0,none⟩=some (.string n):=by rw[aa hP];rfl
  have i1:W.cell? ⟨w.heap.size,1,none⟩=some (.int .i64 l):=by rw[aa hP];rfl
  have i2:W.cell? ⟨w.heap.size,2,none⟩=some (.int .i64 c):=by rw[aa hP];rfl
  obtain⟨j0,j1,j2,j3⟩:=bR hF;have y:=ak hF;have HA':=(show Hid _ from fun a0 a1 a2 a3=>jb D MK.out (F:=w.heap.size+1) (by omega) (by omega) (HNI.out _ (by omega)) a0 a1 a2 a3);go_enter Tryz.func205,Tryz.ntmps205
  go_upto_region 1 with fail
  rw[HW.out];go_wp2_with fail;refine(qd b 200 5 (du v bg) [] d H _ D (ik v bg hbg)).mono ?_;rintro e w1 ⟨rfl,hw1⟩;subst hw1;rw[ho];go_wp2
  exact bodyPost_ret (v:=.agg #[.int .i64 4,.string n,.int .i64 l,.int .i64 c]) (by simp[results,Tryz.results205,go_sem,j0,j1,j2,j3]) rfl
   ⟨by rw[HT.out];rfl,H,by rw[HT.out];exact(HA'.out _ _ _ _).1,(HA'.out _ _ _ _).2,by rw[HT.out];intro hh;cases hh⟩
end Go.Proofs.YtpddjjabfbfifaaGreat
