import Derived.Deep.RegionHeld3
import Derived.BigQuiet
import Derived.Test.YtnbhnocdhbcbcaaGreatG05
namespace Go.Proofs.YtnbhnocdhbcbcaaGreat
open Go.RowKit Tryz
open Value IntKind Ending
set_option maxHeartbeats 0
variable{v:Db}{f a zb z3 y6:Nat}{T k M:World}{s z5:List Value}{y d y2:Nat->Hd}{y3:List Nat}{y4:Fs}{y5:List Bool}{y0 y1:ByteArray}(L i t D:Nat)(g:Fs)(x S n:Nat)(l:Fs)(z0:List Value)(H:List Bool)(zt z4:ByteArray)(z7:World)(o:Db)(y7 y8 y9 ya:Value)(m:Nat)(I:ByteArray)(z6:Pl)
def fG:Db:=⟨[],[],[],[],[],[],[],[],0,⟨#[]⟩,[],false,[]⟩
abbrev oL:=Int×Pl
def cM:oL:=(0,⟨⟨#[]⟩,0,0⟩)
def ij(f:oL):Value:=agg #[int i64 f.1,string f.2.file,int i64 f.2.line,int i64 f.2.col]
def kR(n s:ByteArray)(p:Nat):Pl:=⟨n,aR s p,bC s p⟩
def i9(n s:ByteArray)(i:sJ):oL:=(if i.fin=true then 7 else i.rule,kR n s i.pos)
abbrev Gm:=oL×List Bool×Db
def rT(fs:Fs)(x z:Nat)(p:Pl)(d:Db):oL ⊕ (Nat×Nat) :=
  if lB d=true then .inl (4,p)
  else if aK (aA (ak fs x) z).1=false then .inl (i9 (aD fs x) (ak fs x) (aA (ak fs x) z).1)
  else if dn (aA (ak fs x) z).1.text=true then .inl (5,kR (aD fs x) (ak fs x) (aA (ak fs x) z).1.pos)
  else if bM fs (aA (ak fs x) z).1.text<0 then .inl (6,kR (aD fs x) (ak fs x) (aA (ak fs x) z).1.pos)
  else if aK (aA (ak fs x) (aA (ak fs x) z).2).1=false then .inl (i9 (aD fs x) (ak fs x) (aA (ak fs x) (aA (ak fs x) z).2).1)
  else if((aA (ak fs x) (aA (ak fs x) z).2).1.text.toList == [36,93])=false then .inl (5,kR (aD fs x) (ak fs x) (aA (ak fs x) (aA (ak fs x) z).2).1.pos)
  else .inr ((bM fs (aA (ak fs x) z).1.text).toNat,(aA (ak fs x) (aA (ak fs x) z).2).2)
def nI(rf:Nat->List Bool->Db->Gm)(fs:Fs)(x z:Nat)(p:Pl)(bg:List Bool)(d:Db):Gm×Nat :=
  match rT fs x z p d with
  | .inl f=>((f,bg,d),z)
  | .inr (j,z')=>(rf j bg d,z')
def j9(rf:Nat->List Bool->Db->Gm)(fs:Fs)(x z:Nat)(t:ByteArray)(p:Pl)(bg:List Bool)(d:Db):Gm×Nat :=
  if(t.toList == [36,91])=true then nI rf fs x z p bg d
  else((if((aX d t p).1==0)=true then cM else((aX d t p).1,p),bg,(aX d t p).2),z)
def bA(fs:Fs):Nat->Nat->Nat->List Bool->Db->Gm
  | 0,_,_,bg,d=>(cM,bg,d)
  | f+1,x,k,bg,d =>
    if aK (aA (ak fs x) k).1=true then
      (if((j9 (fun j bg d=>if bg.getD j true=true then(cM,bg,d) else bA fs f j 0 (bg.set j true) d) fs x (aA (ak fs x) k).2 (aA (ak fs x) k).1.text (kR (aD fs x) (ak fs x) (aA (ak fs x) k).1.pos) bg d).1.1.1==0)=true
       then bA fs f x (j9 (fun j bg d=>if bg.getD j true=true then(cM,bg,d) else bA fs f j 0 (bg.set j true) d) fs x (aA (ak fs x) k).2 (aA (ak fs x) k).1.text (kR (aD fs x) (ak fs x) (aA (ak fs x) k).1.pos) bg d).2
          (j9 (fun j bg d=>if bg.getD j true=true then(cM,bg,d) else bA fs f j 0 (bg.set j true) d) fs x (aA (ak fs x) k).2 (aA (ak fs x) k).1.text (kR (aD fs x) (ak fs x) (aA (ak fs x) k).1.pos) bg d).1.2.1
          (j9 (fun j bg d=>if bg.getD j true=true then(cM,bg,d) else bA fs f j 0 (bg.set j true) d) fs x (aA (ak fs x) k).2 (aA (ak fs x) k).1.text (kR (aD fs x) (ak fs x) (aA (ak fs x) k).1.pos) bg d).1.2.2
       else(j9 (fun j bg d=>if bg.getD j true=true then(cM,bg,d) else bA fs f j 0 (bg.set j true) d) fs x (aA (ak fs x) k).2 (aA (ak fs x) k).1.text (kR (aD fs x) (ak fs x) (aA (ak fs x) k).1.pos) bg d).1)
    else if(aA (ak fs x) k).1.fin=true/\lB d=false then(cM,bg,d) else(i9 (aD fs x) (ak fs x) (aA (ak fs x) k).1,bg,d)
def cJ(fs:Fs)(f:Nat)(j:Nat)(bg:List Bool)(d:Db):Gm :=
  if bg.getD j true=true then(cM,bg,d) else bA fs f j 0 (bg.set j true) d
def gJ(fs:Fs)(f x k:Nat)(bg:List Bool)(d:Db):Gm×Nat :=
  j9 (cJ fs f) fs x (aA (ak fs x) k).2 (aA (ak fs x) k).1.text (kR (aD fs x) (ak fs x) (aA (ak fs x) k).1.pos) bg d
theorem zh(a:aK (aA (ak g S) n).1=true)(b:((gJ g x S n H o).1.1.1==0)=true) :
    bA g (x+1) S n H o=bA g x S (gJ g x S n H o).2 (gJ g x S n H o).1.2.1 (gJ g x S n H o).1.2.2:=by
  rw[bA,RY a];exact RY b
theorem oR(a:aK (aA (ak g S) n).1=true)(b:((gJ g x S n H o).1.1.1==0)=false) :
    bA g (x+1) S n H o=(gJ g x S n H o).1:=by
  rw[bA,RY a];exact RU (fun c=>Bool.noConfusion (b.symm.trans c))
theorem Av(a:aK (aA (ak g S) n).1=false)(b:(aA (ak g S) n).1.fin=true)(c:lB o=false) :
    bA g (x+1) S n H o=(cM,H,o):=by
  rw[bA,RU (by simp[a]),RY ⟨b,c⟩]
theorem wY(a:aK (aA (ak g S) n).1=false)(b:¬((aA (ak g S) n).1.fin=true/\lB o=false)) :
    bA g (x+1) S n H o=(i9 (aD g S) (ak g S) (aA (ak g S) n).1,H,o):=by
  rw[bA,RU (by simp[a]),RU b]
theorem kF{i:sJ}(h:aK i=false)(a:i.fin=false):(i.rule==0)=false:=by
  simp[aK,a]at h;simpa using h
structure nZ(d:Db)(m:Nat):Prop where
  Wm:d.Wm.length<=m
  Wg:d.Wg.length+d.We.length<=m
  Wh:d.Wh.length+d.We.length<=m
  Wn:d.Wn.length+d.We.length<=m
  Wq:d.Wq.length+d.We.length<=m
  blocks:d.blocks.length<=m
  Wv:d.Wv.length<=m
  Wp:d.Wp.length<=m
  inner:∀p,p∈d.blocks->p.1<=m/\p.2<=m
  same:d.rbl.length=d.blocks.length
  recs:∀x,x∈d.rbl->x<=d.Wv.length
theorem nZ.small{N:Nat}(h:nZ v f)(b:f<=N):ge v N/\Bx v N :=
  ⟨⟨by have:=h.Wm;omega,by have:=h.Wg;omega,by have:=h.Wh;omega,by have:=h.Wn;omega,by have:=h.Wq;omega,by have:=h.blocks;omega,by have:=h.Wv;omega,by have:=h.blocks;have:=h.same;omega,by have:=h.Wg;omega,by have:=h.Wp;omega⟩,
   ⟨fun p a=>by have:=h.inner p a;omega,h.same,h.recs⟩⟩
theorem nZ.mono{m':Nat}(h:nZ v f)(b:f<=m'):nZ v m' :=
  ⟨by have:=h.Wm;omega,by have:=h.Wg;omega,by have:=h.Wh;omega,by have:=h.Wn;omega,by have:=h.Wq;omega,by have:=h.blocks;omega,by have:=h.Wv;omega,by have:=h.Wp;omega,fun p a=>by have:=h.inner p a;omega,h.same,h.recs⟩
theorem nZ.empty:nZ fG 0:=by
  refine⟨?_,?_,?_,?_,?_,?_,?_,?_,?_,?_,?_⟩ <;> simp[fG]
theorem nZ.plain(h:nZ v f)(k:Int)(l:ByteArray)(b:Bool):nZ { v with kind:=k,label:=l,Wi:=b } f:=⟨h.Wm,h.Wg,h.Wh,h.Wn,h.Wq,h.blocks,h.Wv,h.Wp,h.inner,h.same,h.recs⟩
theorem wL(l:List St)(b:Nat):(ki l b).length=l.length:=jC l b l.length
theorem nZ.declare(h:nZ v f)(p:Pl):nZ { aW v p with kind:=0,label:=⟨#[]⟩,We:=[],Wi:=false,Wp:=[] } (f+1):=by
  have d:=h.Wg;have e:=h.Wh;have g:=h.Wn;have i:=h.Wq;have a:=h.mono (Vd f);unfold aW;split
  · exact⟨a.Wm,by simp;omega,by simp;omega,by simp;omega,by simp;omega,a.blocks,a.Wv,by simp,a.inner,a.same,a.recs⟩
  · split
    · have:=DG v.Wh (v.We.take v.We.length)
      simp only[List.take_length]at this;exact⟨a.Wm,by simp[dW];omega,by simp[dW];omega,by simp[dW];omega,by simp[dW];omega,a.blocks,a.Wv,by simp,a.inner,a.same,a.recs⟩
    · unfold nC nc
      have:=h.Wv;split
      · next j=>exact⟨a.Wm,by simp;omega,by simp;omega,by simp;omega,by simp;omega,a.blocks,by simp;omega,by simp,a.inner,a.same,fun x b=>by have:=h.recs x b;simp;omega⟩
      · exact⟨a.Wm,by simp;omega,by simp;omega,by simp;omega,by simp;omega,a.blocks,by simp;omega,by simp,a.inner,a.same,fun x b=>by have:=h.recs x b;simp;omega⟩
theorem nZ.take(h:nZ v f)(x:ByteArray)(o:Pl):nZ (aX v x o).2 (f+1):=by
  have a:=h.mono (Vd f);have b:=fun k=>a.plain k v.label v.Wi;have r:=h.Wm;have s:=h.Wg;have t:=h.Wh;have u:=h.Wn;have w:=h.Wq;have z:=h.blocks;have l:nZ (bO v x).2 (f+1):=by
    unfold bO;split
    · exact a
    · split
      · exact a
      · split
        · exact a
        · exact⟨by simp;omega,a.Wg,a.Wh,a.Wn,a.Wq,a.blocks,a.Wv,a.Wp,a.inner,a.same,a.recs⟩
  have j:nZ (aI v x).2 (f+1):=by
    unfold aI;split
    · exact b 2
    · split
      · exact b 3
      · split
        · exact b 4
        · split
          · exact b 5
          · exact a
  have i:nZ (aw v x).2 (f+1):=by
    unfold aw;split
    · refine⟨a.Wm,a.Wg,a.Wh,a.Wn,a.Wq,by simp;omega,a.Wv,a.Wp,?_,by simp[h.same],?_⟩
      · intro p c
        simp only[List.mem_append,List.mem_singleton]at c;rcases c with c | rfl
        · exact a.inner p c
        · simp only;omega
      · intro y d
        simp only[List.mem_append,List.mem_singleton]at d;rcases d with d | rfl
        · exact h.recs y d
        · exact RV _
    · split
      · split
        · exact a
        · next p c =>
          unfold cI;have n:v.rbl≠[]:=by
            intro e;have:=h.same;rw[e,rW c]at this;simp at this
          obtain⟨y,d⟩:∃y,v.rbl.getLast?=some y:=⟨_,Uu n⟩
          rw[d];refine⟨a.Wm,a.Wg,a.Wh,?_,?_,?_,?_,a.Wp,?_,?_,?_⟩
          · simp only[de,List.length_take];omega
          · simp only[de,List.length_take];omega
          · simp only[de,List.length_dropLast];omega
          · show(ki v.Wv y).length<=_;rw[wL];exact a.Wv
          · intro q m
            simp only[de]at m;exact a.inner q (Vs _ m)
          · simp only[de,List.length_dropLast,h.same]
          · intro q m
            show q<=(ki v.Wv y).length;rw[wL];exact h.recs q (Vs _ m)
      · split
        · split
          · exact a
          · exact b 7
        · split
          · exact b 8
          · split
            · exact b 1
            · split
              · exact a
              · exact l
  have g:nZ (l9 v o).2 (f+1):=by
    unfold l9;split
    · exact a
    · split
      · exact a
      · exact h.declare o
  unfold aX;split
  · exact i
  · split
    · exact j
    · split
      · exact g
      · split
        · unfold ce
          split
          · exact a
          · exact a.plain v.kind v.label true
        · split
          · exact a
          · split
            · exact⟨a.Wm,a.Wg,a.Wh,a.Wn,a.Wq,a.blocks,a.Wv,by have:=h.Wp;simp;omega,a.inner,a.same,a.recs⟩
            · split
              · exact⟨a.Wm,by simp;omega,by simp;omega,by simp;omega,by simp;omega,a.blocks,a.Wv,a.Wp,a.inner,a.same,a.recs⟩
              · exact a
def NL(fs:Fs)(bg:List Bool)(j:Nat):Nat:=if bg.getD j true=true then 0 else(ak fs j).size+2
def eC(fs:Fs)(bg:List Bool):Nat:=NL fs bg 0+NL fs bg 1+NL fs bg 2+NL fs bg 3
theorem xk(f:H.length=4)(e:H.getD m true=false):eC l (H.set m true)+(ak l m).size+2=eC l H:=by
  match H,f with
  | [a,b,c,d],_ =>
    match m with
    | 0=>simp at e;subst e;simp[eC,NL];omega
    | 1=>simp at e;subst e;simp[eC,NL];omega
    | 2=>simp at e;subst e;simp[eC,NL];omega
    | 3=>simp at e;subst e;simp[eC,NL];omega
    | m+4=>simp at e
def Q9(fs:Fs)(bg:List Bool)(m:Nat)(r:Gm):Prop :=
  r.2.1.length=4/\eC fs r.2.1<=eC fs bg/\∃m',nZ r.2.2 m'/\m'+eC fs r.2.1<=m+eC fs bg
theorem Dt(p:∀j a d b,a.length=4->nZ d b->Q9 l a b (cJ l m j a d))(x k:Nat)(a:List Bool)(d:Db)(b:Nat)(r:k<=(ak l x).size)(o:a.length=4)(i:nZ d b)(s:aK (aA (ak l x) k).1=true) :
    Q9 l a (b+1) (gJ l m x k a d).1/\k<(gJ l m x k a d).2/\(gJ l m x k a d).2<=(ak l x).size:=by
  have f:=fT (ak l x) k r;have e:=f.2.2 s;unfold gJ j9;split
  · unfold nI
    split
    · exact⟨⟨o,RV _,b,i,by simp only;omega⟩,e,f.2.1⟩
    · next j z c =>
      have g:=p j a d b o i;refine⟨⟨g.1,g.2.1,?_⟩,?_⟩
      · obtain⟨u,v,y⟩:=g.2.2;exact⟨u,v,by simp only;omega⟩
      · unfold rT at c
        have t:=fT (ak l x) (aA (ak l x) k).2 f.2.1;have w:=fT (ak l x) (aA (ak l x) (aA (ak l x) k).2).2 t.2.1
        repeat' split at c
        all_goals first | (cases c;done) | skip
        injection c with c
        injection c with q n
        subst n;omega
  · exact⟨⟨o,RV _,b+1,i.take _ _,by simp only;omega⟩,e,f.2.1⟩
theorem LV(f:Nat):(∀x k a d m,k<=(ak l x).size->a.length=4->nZ d m->(bA l f x k a d).2.1.length=4/\eC l (bA l f x k a d).2.1<=eC l a/\∃c,nZ (bA l f x k a d).2.2 c/\c+eC l (bA l f x k a d).2.1<=m+((ak l x).size-k)+eC l a) /\
    (∀j a d m,a.length=4->nZ d m->Q9 l a m (cJ l f j a d)):=by
  have b:∀f,(∀x k a d m,k<=(ak l x).size->a.length=4->nZ d m->(bA l f x k a d).2.1.length=4/\eC l (bA l f x k a d).2.1<=eC l a/\∃c,nZ (bA l f x k a d).2.2 c/\c+eC l (bA l f x k a d).2.1<=m+((ak l x).size-k)+eC l a) ->
      (∀j a d m,a.length=4->nZ d m->Q9 l a m (cJ l f j a d)):=by
    intro f h j a d m e g;unfold cJ;split
    · exact⟨e,RV _,m,g,RV _⟩
    · next w =>
      have o:a.getD j true=false:=(by simpa using w);have F:=xk l a j e o;have:=h j 0 (a.set j true) d m (SE _) (by simpa using e) g;refine⟨this.1,by omega,?_⟩;obtain⟨c,z,G⟩:=this.2.2;exact⟨c,z,by omega⟩
  induction f with
  | zero =>
    have p:∀x k a d m,k<=(ak l x).size->a.length=4->nZ d m->(bA l 0 x k a d).2.1.length=4/\eC l (bA l 0 x k a d).2.1<=eC l a/\∃c,nZ (bA l 0 x k a d).2.2 c/\c+eC l (bA l 0 x k a d).2.1<=m+((ak l x).size-k)+eC l a:=by
      intro x k a d m r e g;exact⟨e,RV _,m,g,by simp only[bA];omega⟩
    exact⟨p,b 0 p⟩
  | succ f s =>
    have q:∀x k a d m,k<=(ak l x).size->a.length=4->nZ d m->(bA l (f+1) x k a d).2.1.length=4/\eC l (bA l (f+1) x k a d).2.1<=eC l a/\∃c,nZ (bA l (f+1) x k a d).2.2 c/\c+eC l (bA l (f+1) x k a d).2.1<=m+((ak l x).size-k)+eC l a:=by
      intro x k a d m r e g;cases n:aK (aA (ak l x) k).1 with
      | true =>
        have E:=Dt l f s.2 x k a d m r e g n;obtain⟨⟨u,C,t,v,J⟩,K,D⟩:=E;cases i:((gJ l f x k a d).1.1.1==0) with
        | true =>
          rw[zh l f x k a d n i];obtain⟨A,H,y,B,I⟩:=s.1 x (gJ l f x k a d).2 (gJ l f x k a d).1.2.1 (gJ l f x k a d).1.2.2 t D u v;exact⟨A,by omega,y,B,by omega⟩
        | false =>
          rw[oR l f x k a d n i];exact⟨u,C,t,v,by omega⟩
      | false =>
        by_cases i:(aA (ak l x) k).1.fin=true/\lB d=false
        · rw[Av l f x k a d n i.1 i.2];exact⟨e,RV _,m,g,by simp only;omega⟩
        · rw[wY l f x k a d n i];exact⟨e,RV _,m,g,by simp only;omega⟩
    exact⟨q,b (f+1) q⟩
theorem yp(k:Nat)(a:I.size<=1024):(bb I k).1.text.size<=1024:=by
  unfold bb;generalize I.size-k+1=f
  induction f generalizing k with
  | zero=>simp[b8,ByteArray.size]
  | succ f b =>
    rw[b8];split
    · split
      · simp[ByteArray.size]
      · exact b _
    · split
      · simp[ByteArray.size]
      · exact qR I k a
theorem rY(k:Nat)(a:I.size<=1024):(aA I k).1.text.size<=1024:=by
  unfold aA;generalize I.size-k+1=f
  induction f generalizing k with
  | zero=>simp[dN,ByteArray.size]
  | succ f b =>
    rw[dN];split
    · split
      · exact b _
      · exact yp I _ a
    · exact qR I k a
theorem FP:(aX o I z6).2.Wp=o.Wp∨(aX o I z6).2.Wp=[]∨(aX o I z6).2.Wp=o.Wp++[(I,z6)]:=by
 unfold aX;split
 ·left
  unfold aw;split
  ·rfl
  ·split
   ·split
    ·rfl
    ·unfold cI;split <;> rfl
   ·split
    ·split <;> rfl
    ·split
     ·rfl
     ·split
      ·rfl
      ·split
       ·rfl
       ·unfold bO
        repeat' split
        all_goals rfl
 ·split
  ·left;unfold aI
   repeat' split
   all_goals rfl
  ·split
   ·unfold l9;split
    ·left;rfl
    ·split
     ·left;rfl
     ·right;left;rfl
   ·split
    ·left;unfold ce;split <;> rfl
    ·split
     ·left;rfl
     ·split
      ·right;right;rfl
      ·split
       ·left;rfl
       ·left;rfl
theorem Nu:(aX o I z6).2.Wv=o.Wv∨(∃y∈o.rbl,(aX o I z6).2.Wv=ki o.Wv y)∨((aX o I z6).2.Wv=o.Wv++[⟨o.kind,o.label,o.We,o.Wp,z6,0⟩]/\0<o.We.length):=by
 unfold aX;split
 ·unfold aw;split
  ·left;rfl
  ·split
   ·split
    ·left;rfl
    ·unfold cI;split
     ·left;rfl
     ·next y c=>right;left;exact⟨y,List.mem_of_getLast? c,rfl⟩
   ·split
    ·split <;> (left;rfl)
    ·split
     ·left;rfl
     ·split
      ·left;rfl
      ·split
       ·left;rfl
       ·left;unfold bO
        repeat' split
        all_goals rfl
 ·split
  ·left;unfold aI
   repeat' split
   all_goals rfl
  ·split
   ·unfold l9;split
    ·left;rfl
    ·next b =>
     have a:0<o.We.length:=by
      unfold mA at b;split at b <;> omega
     split
     ·left;rfl
     ·unfold aW;split
      ·left;rfl
      ·split
       ·left;rfl
       ·right;right
        refine⟨?_,a⟩;unfold nC;split <;> rfl
   ·split
    ·left;unfold ce;split <;> rfl
    ·split
     ·left;rfl
     ·split
      ·left;rfl
      ·split
       ·left;rfl
       ·left;rfl
structure RK(S:List St)(d:Db):Prop where
 pre:∃m,d.Wv=S++m
 rbl:∀y∈d.rbl,S.length<=y
structure Rw where
 label:ByteArray
 Wk:Int
 why:Int
 at_:Pl
def kU(r:Rw):List Value:=[string r.label,int i64 r.Wk,int i64 r.why,string r.at_.file,int i64 r.at_.line,int i64 r.at_.col]
def iI(l:List Rw):List Value:=l.flatMap kU
def qr(l:List Rw):eB:=⟨38,6,l.length,iI l⟩
def ln:Pl:=⟨⟨#[]⟩,0,0⟩
def qB:Rw:=⟨⟨#[]⟩,0,0,ln⟩
theorem J4(l:List Rw)(s:Rw):(⟨(qr l).e,(qr l).size,(qr l).n+1,(qr l).xs++kU s⟩:eB)=qr (l++[s]):=by simp[qr,iI]
theorem Hb(s:Rw):∀u∈kU s,u.oneCell'=true:=by
 intro u a;simp only[kU,List.mem_cons,List.not_mem_nil,or_false]at a;rcases a with rfl | rfl | rfl | rfl | rfl | rfl <;> rfl
theorem Mh:(prog.info? 38).map (fun i=>(i.zero,i.size,i.bytes))=some (some (agg #[string ⟨#[]⟩,int i64 0,int i64 0,string ⟨#[]⟩,int i64 0,int i64 0]),6,64):=by kernel_rfl
theorem Dn(l:List Rw):(iI l).length=l.length*6:=by
 induction l with
 | nil=>rfl
 | cons x r a =>
  have e:iI (x :: r)=kU x++iI r:=rfl;rw[e,R9,a];simp[kU];omega
theorem A8(l:List Rw)(k:Nat)(a:k<l.length)(j:Nat)(d:j<6):(iI l)[k*6+j]?=(kU l[k])[j]?:=by
 induction l generalizing k with
 | nil=>simp at a
 | cons s r c =>
  have e:iI (s :: r)=kU s++iI r:=rfl;rw[e];cases k with
  | zero=>rw[Si (by simp[kU];omega)];simp
  | succ k =>
   rw[Sf (by simp[kU];omega)];have b:(k+1)*6+j-(kU s).length=k*6+j:=by simp[kU];omega
   rw[b,c k (by simpa using a)];rfl
def KZ(p:Pl):Prop:=-1000000000<=p.line/\p.line<=1000000000
theorem QW{a:Array Value}{t:TypeId}{L:List Rw}(h:T.heap[f]?=some (.cells a t))(g:∀(j:Nat) v,(iI L)[j]?=some v->a[j]?=some v)(k:Nat)(d:k<L.length) :
  T.cell? ⟨f,k*6,none⟩=some (string L[k].label)/\T.cell? ⟨f,k*6+1,none⟩=some (int i64 L[k].Wk)/\T.cell? ⟨f,k*6+2,none⟩=some (int i64 L[k].why)/\T.cell? ⟨f,k*6+3,none⟩=some (string L[k].at_.file)/\T.cell? ⟨f,k*6+4,none⟩=some (int i64 L[k].at_.line)/\T.cell? ⟨f,k*6+5,none⟩=some (int i64 L[k].at_.col):=by
 have c:=fun j (b:j<6) v (e:(kU L[k])[j]?=some v)=>(aj h (k*6+j)).trans (g _ _ ((A8 L k d j b).trans e));exact⟨c 0 (by omega) _ rfl,c 1 (by omega) _ rfl,c 2 (by omega) _ rfl,c 3 (by omega) _ rfl,c 4 (by omega) _ rfl,c 5 (by omega) _ rfl⟩
def M7:Option Nat->Nat->Value
 | none,_=>.slice none 0 0
 | some g,n=>.slice (some ⟨g,0,none⟩) n n
def Lc(w:World):Option Nat->List Rw->Prop
 | none,L=>L=[]
 | some g,L=>0<L.length/\w.heap[g]?=some (.cells (iI L).toArray 38)
structure Rl(L:List Rw):Prop where
 len:L.length<=100000
 line:∀r∈L,KZ r.at_
theorem nJ(r l c:Int)(f:Bool)(w:World) :
  Calls prog 160 #[agg #[string z4,int i64 r,bool f,string I,int i64 l,int i64 c]] w fun e a=>e=returned (agg #[int i64 (if f=true then 7 else r),string I,int i64 l,int i64 c])/\aa [] w a:=by
 cases f
 ·go_enter func160,ntmps160;go_wp2;exact Sa (v:=agg #[int i64 r,string I,int i64 l,int i64 c]) (by simp[results,results160,go_sem]) rfl ⟨rfl,((aa.refl _ _).alloc _).alloc _⟩
 ·go_enter func160,ntmps160;go_wp2;exact Sa (v:=agg #[int i64 7,string I,int i64 l,int i64 c]) (by simp[results,results160,go_sem]) rfl ⟨rfl,((aa.refl _ _).alloc _).alloc _⟩
def ed(v:Nat)(bg:List Bool):List Value:=pointer (some ⟨v,0,none⟩) :: bg.map bool
theorem jG(h:H.length=4):(ed n H).length=5:=by simp[ed,h]
theorem aV.pre(h:aV T f a s z5 v y)(i:Nat)(c:i<s.length)(u:Value) :
  aV (T.setCell ⟨f,i,none⟩ u) f a (s.set i u) z5 v y/\aB f T y (T.setCell ⟨f,i,none⟩ u) y:=by
 refine⟨⟨?_,?_,h.apart,h.off⟩,(fy.refl _ _).setCell (R4 (R4 rfl)) _,fun _ b=>R4 b⟩
 ·rw[ah h.blk,SV,UY _ _ c]
 ·intro j;refine(h.own j).Wo (fun k b=>Sg _ _ _ _ ?_);rintro rfl;exact h.off j b
theorem aV.preCell(h:aV T f a s z5 v y)(i:Nat)(b:i<s.length):T.cell? ⟨f,i,none⟩=s[i]?:=by
 rw[aj h.blk];simp[List.getElem?_append_left b]
def f8(b sp:Nat)(w:World)(H:Nat->Hd)(w':World)(H':Nat->Hd):Prop :=
 fy (fun k=>k=b∨k=sp∨gO H k) w w'/\∀k,gO H' k->gO H k∨w.heap.size<=k
theorem aB.Wo{w':World}(t:aB f T y w' d):f8 f m T y w' d :=
 ⟨⟨t.1.os,t.1.tape,t.1.output,t.1.size,fun k a b=>t.1.block k a (fun e=>b (e.elim R4 (fun e=>RZ (RZ e))))⟩,t.2⟩
theorem f8.trans{w1:World}(b:f8 f a T y w1 d)(c:f8 f a w1 d k y2):f8 f a T y k y2:=by
 refine⟨⟨c.1.os.trans b.1.os,c.1.tape.trans b.1.tape,c.1.output.trans b.1.output,Sc b.1.size c.1.size,?_⟩,?_⟩
 ·intro g i j;rw[<-b.1.block g i j];refine c.1.block g (R6 i b.1.size) ?_;rintro (e | e | l)
  ·exact j (R4 e)
  ·exact j (RZ (R4 e))
  ·rcases b.2 g l with h | h
   ·exact j (RZ (RZ h))
   ·omega
 ·intro g i;rcases c.2 g i with h | h
  ·exact b.2 g h
  ·exact RZ (Sc b.1.size h)
theorem f8.refl(H:Nat->Hd):f8 S n z7 H z7 H:=⟨fy.refl _ _,fun _ a=>R4 a⟩
theorem f8.Wj(b:f8 f a T y k d)(c:aa [] k M):f8 f a T y M d :=
 b.trans ⟨c.toP (by simp),fun _ e=>R4 e⟩
theorem f8.first(c:aa [] T k)(b:f8 f a k y M d):f8 f a T y M d :=
 f8.trans ⟨c.toP (by simp),fun _ e=>R4 e⟩ b
theorem f8.scan(e:f8 f a T y k d)(c:aa [a] k M):f8 f a T y M d :=
 e.trans ⟨c.toP (by intro g b _;simp at b;exact RZ (R4 b)),fun _ b=>R4 b⟩
theorem f8.beyond(b:f8 f a T y k d)(c:aa y3 k M)(g:∀x,x∈y3->T.heap.size<=x):f8 f a T y M d :=
 ⟨⟨c.os.trans b.1.os,c.tape.trans b.1.tape,c.output.trans b.1.output,Sc b.1.size c.size,fun i e l=>by
  rw[<-b.1.block i e l];exact c.block i (R6 e b.1.size) (fun j=>by have:=g i j;omega)⟩,b.2⟩
theorem f8.fresh(b:f8 f a T y k d)(F:Nat)(g:F<T.heap.size)(c:¬gO y F):¬gO d F:=by
 intro e;rcases b.2 F e with h | h
 ·exact c h
 ·omega
theorem aB.fresh(a:aB f T y k d)(F:Nat)(e:F<T.heap.size)(b:¬gO y F):¬gO d F:=by
 intro c;rcases a.2 F c with h | h
 ·exact b h
 ·omega
theorem jE{w:World}{r:Nat}:aa [r] w ((((w.setCell ⟨r,0,none⟩ y7).setCell ⟨r,1,none⟩ y8).setCell ⟨r,2,none⟩ y9).setCell ⟨r,3,none⟩ ya) :=
 ((((aa.refl _ _).setCell (R4 (by simp)) _).setCell (R4 (by simp)) _).setCell (R4 (by simp)) _).setCell (R4 (by simp)) _
theorem Fy(a b:Value):aa [f] T ((((((T.setCell ⟨f,0,none⟩ y7).setCell ⟨f,1,none⟩ y8).setCell ⟨f,2,none⟩ y9).setCell ⟨f,3,none⟩ ya).setCell ⟨f,4,none⟩ a).setCell ⟨f,5,none⟩ b) :=
 ((((((aa.refl _ _).setCell (R4 (by simp)) _).setCell (R4 (by simp)) _).setCell (R4 (by simp)) _).setCell (R4 (by simp)) _).setCell (R4 (by simp)) _).setCell (R4 (by simp)) _
def bD:Array Value:=#[int i64 0,string ⟨#[]⟩,int i64 0,int i64 0]
theorem cD(h:T.heap[f]?=some (.cells bD 87)) :
  T.cell? ⟨f,0,none⟩=some (int i64 0)/\T.cell? ⟨f,1,none⟩=some (string ⟨#[]⟩)/\T.cell? ⟨f,2,none⟩=some (int i64 0)/\T.cell? ⟨f,3,none⟩=some (int i64 0):=by
 refine⟨?_,?_,?_,?_⟩ <;> (rw[aj h];rfl)
theorem om{F:Nat}(D:aV k f a s z5 v d)(c:aB f T y k d)(b:T.heap.size<=F)(l:f≠F)(m:¬gO d F)(e g i j:Value) :
  aV ((((k.setCell ⟨F,0,none⟩ e).setCell ⟨F,1,none⟩ g).setCell ⟨F,2,none⟩ i).setCell ⟨F,3,none⟩ j) f a s z5 v d /\
  aB f T y ((((k.setCell ⟨F,0,none⟩ e).setCell ⟨F,1,none⟩ g).setCell ⟨F,2,none⟩ i).setCell ⟨F,3,none⟩ j) d:=by
 refine⟨D.kept (jE _ _ _ _) (by simpa using l) (fun x n=>by simp;rintro rfl;exact m n),?_,c.2⟩;exact(((c.1.setCell (RZ b) _).setCell (RZ b) _).setCell (RZ b) _).setCell (RZ b) _
set_option maxRecDepth 100000
theorem uJ(D:H.length=4)(d:Db)(p:Nat->Hd)(sp:Value)(j i:ByteArray)(l c:Int)(w:World)(h:aV w x S (ed n H) [] d p)(hs:ge d 10000000)(hx:j.size<=1073741824)(hi:Bx d 100000000)(hn:(j.toList == [36,91])=false) :
  Calls prog 158 #[pointer (some ⟨x,0,none⟩),sp,agg #[string j,int i64 0,bool false,string i,int i64 l,int i64 c]] w fun e g =>
   e=returned (ij (if((aX d j ⟨i,l,c⟩).1==0)=true then cM else((aX d j ⟨i,l,c⟩).1,⟨i,l,c⟩))) /\
   ∃N,aV g x S (ed n H) [] (aX d j ⟨i,l,c⟩).2 N/\aB x w p g N:=by
 have ac:=h.lt;have B:=fun(g:World) (h':aV g x S (ed n H) [] d p)=>Nr x S 5 (ed n H) [] d p j i l c g h' (jG n H D) hs hx hi;unfold iC at B;have t:Hid _:=B;clear B;generalize aX d j ⟨i,l,c⟩=td at *;obtain⟨r,d'⟩:=td;simp only at t;obtain⟨W,A⟩:∃W,W=((w.alloc (.cells #[string j,int i64 0,bool false,string i,int i64 l,int i64 c] 255)).alloc (.cells #[int i64 0,string ⟨#[]⟩,int i64 0,int i64 0] 87)):=⟨_,rfl⟩
 have R:aa [] w W:=by rw[A];exact((aa.refl [] w).alloc _).alloc _
 have O:aV W x S (ed n H) [] d p:=h.Wj R;have Q:W.heap[w.heap.size]?=some (.cells #[string j,int i64 0,bool false,string i,int i64 l,int i64 c] 255):=by
  rw[A];exact((aa.refl [] _).alloc _).get (R2 _ _) (by simp)
 have P:W.heap[w.heap.size+1]?=some (.cells bD 87):=by
  rw[A];have:=R2 (w.alloc (.cells #[string j,int i64 0,bool false,string i,int i64 l,int i64 c] 255)) (.cells #[int i64 0,string ⟨#[]⟩,int i64 0,int i64 0] 87);simpa [bD] using this
 have s:Hid (∀k,w.heap.size<=k->¬(k=x∨gO p k)):=by
  rintro k hk (e | E)
  ·omega
  ·have:=h.inlt E;omega
 have U:Hid _:=A.symm;clear A h;obtain⟨i0,-,-,i3,i4,i5⟩:=IM Q
 have v:=(show Hid _ from fun(a:World) (b:Nat->Hd) (u:aV a x S (ed n H) [] d' b) (f:aB x W.drew p a b) (V X Y Z:Value) =>
  om u ((f.first (aa.refl [] W).drew).first R) (F:=w.heap.size+1) (by omega) (by omega) (f.fresh (w.heap.size+1) (by exact ae P) (fun E=>s.out (w.heap.size+1) (by omega) (RZ E))) V X Y Z)
 have q:Hid _:=fun(a:World) (b:Nat->Hd) (f:aB x W.drew p a b)=>(show _/\_ from⟨f.1.get (by exact Q) (s.out _ (RV _)),f.1.get (by exact P) (s.out _ (by omega))⟩)
 have M:∀(a:World) (b:Nat->Hd) (_:aB x W.drew p a b),a.cell? ⟨w.heap.size,0,none⟩=some (string j)/\a.cell? ⟨w.heap.size,3,none⟩=some (string i)/\a.cell? ⟨w.heap.size,4,none⟩=some (int i64 l)/\a.cell? ⟨w.heap.size,5,none⟩=some (int i64 c):=by
  intro a b f;have C:=(q.out a b f).1;refine⟨?_,?_,?_,?_⟩ <;> (rw[aj C];rfl)
 have z:Hid _:=M;clear M;go_enter func158,ntmps158;go_upto_region 1 with fail
 rw[U.out];go_upto_region 3 with fail
 cases T:(r==0)
 ·have G:(r != 0)=true:=by simp[bne,T]
  go_region_held3 (fun g=>g.cell? ⟨w.heap.size,0,none⟩=some (string j)/\g.cell? ⟨w.heap.size,3,none⟩=some (string i)/\g.cell? ⟨w.heap.size,4,none⟩=some (int i64 l)/\g.cell? ⟨w.heap.size,5,none⟩=some (int i64 c)) (go_keep) (first | (go_at_call 207;refine(t.out _ (by exact O.Wj (aa.refl [] _).drew)).mono ?_;rintro e a ⟨rfl,b,u,f⟩;obtain⟨r0,r3,r4,r5⟩:=z.out a b f))
  all_goals
   have o:=(q.out a b f).2;have m:Hid _:=v.out a b u f;obtain⟨I,J,K,L⟩:=cD o;have y:=am o;go_wp2;exact Sa (v:=agg #[int i64 r,string i,int i64 l,int i64 c]) (by simp[results,results158,go_sem,I,J,K,L]) rfl
    ⟨rfl,b,(m.out _ _ _ _).1,(m.out _ _ _ _).2⟩
 ·have G:(r != 0)=false:=by simp[bne,T]
  go_region_held3 (fun g=>g.cell? ⟨w.heap.size,0,none⟩=some (string j)/\g.cell? ⟨w.heap.size,3,none⟩=some (string i)/\g.cell? ⟨w.heap.size,4,none⟩=some (int i64 l)/\g.cell? ⟨w.heap.size,5,none⟩=some (int i64 c)) (go_keep) (first | (go_at_call 207;refine(t.out _ (by exact O.Wj (aa.refl [] _).drew)).mono ?_;rintro e a ⟨rfl,b,u,f⟩;obtain⟨r0,r3,r4,r5⟩:=z.out a b f))
  all_goals
   have o:=(q.out a b f).2;have m:Hid _:=v.out a b u f;obtain⟨I,J,K,L⟩:=cD o;have y:=am o;go_wp2;exact Sa (v:=agg #[int i64 0,string ⟨#[]⟩,int i64 0,int i64 0]) (by simp[results,results158,go_sem,I,J,K,L]) rfl
    ⟨rfl,b,(m.out _ _ _ _).1,(m.out _ _ _ _).2⟩
def jX(b v:Nat)(fs:Fs)(f j:Nat)(bg:List Bool)(d:Db)(H:Nat->Hd)(w:World):Prop :=
 Calls prog 112 #[pointer (some ⟨b,0,none⟩),int i64 j] w fun e w'=>e=returned (ij (cJ fs f j bg d).1)/\∃H',aV w' b 200 (ed v (cJ fs f j bg d).2.1) [] (cJ fs f j bg d).2.2 H'/\aB b w H w' H'
theorem kD{F:Nat}(D:aV k f a s z5 v d)(i:f8 f zb T y k d)(j:T.heap.size<=F)(l:f≠F)(m:¬gO d F)(b c e g:Value) :
  aV ((((k.setCell ⟨F,0,none⟩ b).setCell ⟨F,1,none⟩ c).setCell ⟨F,2,none⟩ e).setCell ⟨F,3,none⟩ g) f a s z5 v d /\
  f8 f zb T y ((((k.setCell ⟨F,0,none⟩ b).setCell ⟨F,1,none⟩ c).setCell ⟨F,2,none⟩ e).setCell ⟨F,3,none⟩ g) d :=
 ⟨D.kept (jE _ _ _ _) (by simpa using l) (fun x n=>by simp;rintro rfl;exact m n),i.beyond (jE _ _ _ _) (by simpa using j)⟩
theorem rt(u:Int)(f:Bool)(p:Nat):ij (i9 zt z4 ⟨I,u,f,p⟩)=agg #[int i64 (if f=true then 7 else u),string zt,int i64 (aR z4 p),int i64 (bC z4 p)]:=rfl
structure sI(w w':World)(b v tt sp z:Nat)(fs:Fs)(more:List Value)(bg:List Bool)(d:Db)(H:Nat->Hd)(n s:ByteArray):Prop where
 D:aV w' b 200 (ed v bg) [] d H
 TB:bF w' v tt fs more
 SC:b7 w' sp n s z
 F:w'.heap[w.heap.size+1]?=some (.cells bD 87)
 M:f8 b sp w H w' H
theorem sI.Wj(S:sI T k f a zb z3 y6 y4 s y5 v y y0 y1)(b:aa [] k M):sI T M f a zb z3 y6 y4 s y5 v y y0 y1 :=
 ⟨S.D.Wj b,S.TB.kept b (by simp),S.SC.kept b (by simp),b.get S.F (by simp),S.M.Wj b⟩
theorem sI.next{c:Nat}(S:sI T k f a zb z3 y6 y4 s y5 v y y0 y1)(b:aa [z3] k M)(d:b7 M z3 y0 y1 c)(g:z3≠f)(i:a≠z3)(j:¬gO y z3)(m:z3<T.heap.size):sI T M f a zb z3 c y4 s y5 v y y0 y1 :=
 ⟨S.D.kept b (by simpa using fun e=>g e.symm) (by intro x l;simp;rintro rfl;exact j l),S.TB.kept b (by simpa using i),d,b.get S.F (by simp;omega),S.M.scan b⟩
theorem Cy(bc:H.length=4)(d:Db)(z:Nat->Hd)(a s:ByteArray)(v c:Int)(w:World)(h:aV w L 200 (ed i H) [] d z)(hn:aD l S=a)(bx:ak l S=s)(hs:s.size<=1024)(hz:n<=s.size)(ar:b7 w D a s n)(ht:bF w i t l z0)(X:D≠L)(bk:i≠D)(ax:¬gO z D)(RF:Hid (∀(j:Nat) (w':World),j<l.length->aV w' L 200 (ed i H) [] d z->bF w' i t l z0->jX L i l x j H d z w')) :
  Calls prog 206 #[pointer (some ⟨L,0,none⟩),pointer (some ⟨D,0,none⟩),agg #[string a,int i64 v,int i64 c]] w fun e w' =>
   e=returned (ij (nI (cJ l x) l S n ⟨a,v,c⟩ H d).1.1)/\∃H',aV w' L 200 (ed i (nI (cJ l x) l S n ⟨a,v,c⟩ H d).1.2.1) [] (nI (cJ l x) l S n ⟨a,v,c⟩ H d).1.2.2 H'/\f8 L D w z w' H' /\
    (((nI (cJ l x) l S n ⟨a,v,c⟩ H d).1.1.1==0)=true->b7 w' D a s (nI (cJ l x) l S n ⟨a,v,c⟩ H d).2):=by
 obtain⟨W,hW⟩:∃W,W=((w.alloc (.cells #[string a,int i64 v,int i64 c] 36)).alloc (.cells #[int i64 0,string ⟨#[]⟩,int i64 0,int i64 0] 87)):=⟨_,rfl⟩
 have hK:aa [] w W:=by rw[hW];exact((aa.refl [] w).alloc _).alloc _
 have cb:=h.lt;have al:=ae ar;have cc:=ht.lt;have aS:aV W L 200 (ed i H) [] d z:=h.Wj hK;have SC:b7 W D a s n:=ar.kept hK (by simp);have TB:bF W i t l z0:=ht.kept hK (by simp);have hP:W.heap[w.heap.size]?=some (.cells #[string a,int i64 v,int i64 c] 36):=by
  rw[hW];exact((aa.refl [] _).alloc _).get (R2 _ _) (by simp)
 have hF:W.heap[w.heap.size+1]?=some (.cells bD 87):=by
  rw[hW];have:=R2 (w.alloc (.cells #[string a,int i64 v,int i64 c] 36)) (.cells #[int i64 0,string ⟨#[]⟩,int i64 0,int i64 0] 87);simpa [bD] using this
 have B:Hid (∀k,w.heap.size<=k->¬gO z k):=fun k hk hm=>by have:=h.inlt hm;omega
 have HW:Hid _:=hW.symm;have b5:=ae hF;have MK:Hid (f8 L D w z W z):=(f8.refl L D w z).Wj hK;clear hW h ar ht;have I:Hid (nI (cJ l x) l S n ⟨a,v,c⟩ H d=match rT l S n ⟨a,v,c⟩ d with | .inl q=>((q,H,d),n) | .inr (j,z')=>(cJ l x j H d,z')):=rfl;have A:Hid (rT l S n ⟨a,v,c⟩ d=_):=(show rT l S n ⟨a,v,c⟩ d=_ from by unfold rT;rw[hn,bx])
 cases ho:lB d
 ·have az:=fT s n hz;have b1:=rY s n hs;have bl:=fT s (aA s n).2 az.2.1;have be:=pT (aA s n).1.text l;generalize hr1:aA s n=r1 at *;obtain⟨⟨Y,u1,f1,E⟩,z1⟩:=r1;simp only at az b1 bl be A;have b2:=rY s z1 hs;generalize hr2:aA s z1=r2 at *;obtain⟨⟨t2,u2,f2,Q⟩,z2⟩:=r2;simp only at bl b2 A;rw[ho]at A;have S0:sI w W L i t D n l z0 H d z a s:=⟨aS,TB,SC,hF,MK.out⟩;go_enter func206,ntmps206;go_upto_region 1 with fail
  rw[HW.out];go_wp2_with fail;refine(tK L 200 5 (ed i H) [] d z _ aS (jG i H bc)).mono ?_;rintro e w1 ⟨rfl,u⟩;subst u;rw[ho];go_wp2_with fail;refine(tJ D n a s _ hs hz SC).mono ?_;rintro e w2 ⟨rfl,Z,bf⟩;rw[hr1]at Z ⊢;simp only[fA]at Z ⊢;have S2:=S0.next bf Z X bk ax al;obtain⟨W3,ad⟩:∃W3,W3=w2.alloc (.cells #[string Y,int i64 u1,bool f1,string a,int i64 (aR s E),int i64 (bC s E)] 255):=⟨_,rfl⟩
  have a6:Hid _:=ad.symm;have S3:sI w W3 L i t D z1 l z0 H d z a s:=by rw[ad];exact S2.Wj ((aa.refl [] _).alloc _)
  have I3:jL W3 w2.heap.size a s ⟨Y,u1,f1,E⟩:=by rw[ad];exact R2 _ _
  clear ad S0 S2 Z bf aS TB SC hP hF hK HW hr1;go_upto_region 4 with fail
  rw[a6.out];clear a6;obtain⟨g,m,o,p,a4,a5⟩:=I3.cells;go_wp2_with fail;refine(cY Y a u1 (aR s E) (bC s E) f1 _).mono ?_;rintro e w4 ⟨rfl,ao⟩;have J:=S3.Wj ao;have I4:=I3.kept ao (by simp);clear g m o p a4 a5 S3 I3 ao;obtain⟨g,m,o,p,a4,a5⟩:=I4.cells;have b6:=ae I4;have b3:=ae J.F;cases u:(u1==0 && !f1)
  ·have f:Hid (nI (cJ l x) l S n ⟨a,v,c⟩ H d=((i9 a s ⟨Y,u1,f1,E⟩,H,d),n)):=by
    show _=_;rw[I.out,A.out];simp[aK,u]
   clear I A;go_wp2_with fail;refine(nJ Y a u1 (aR s E) (bC s E) f1 _).mono ?_;rintro e w5 ⟨rfl,bv⟩;obtain⟨q,hq⟩:∃q:Int,Hid ((if f1=true then(7:Int) else u1)=q):=⟨_,rfl⟩
   rw[hq.out];have T:=J.Wj bv;obtain⟨K,N,O,P⟩:=cD T.F;have y:=am T.F;have b:Hid _:=(fun g m o p=>kD T.D T.M (F:=w.heap.size+1) (by omega) (by omega) (B.out _ (by omega)) g m o p);clear g m o p a4 a5;go_wp2;exact Sa (v:=agg #[int i64 q,string a,int i64 (aR s E),int i64 (bC s E)]) (by simp[results,results206,go_sem,K,N,O,P]) rfl
    ⟨by rw[f.out,rt,hq.out],z,by rw[f.out];exact(b.out _ _ _ _).1,(b.out _ _ _ _).2,by
     rw[f.out];intro C
     exfalso
     simp only[i9]at C;cases f1
     ·simp at u C;exact u C
     ·simp at C⟩
  ·have bz:u1=0:=(by simp at u;exact u.1);have br:f1=false:=(by simp at u;exact u.2);subst bz br;cases V:dn Y
   ·have b0:w4.cell? ⟨L,0,none⟩=some (pointer (some ⟨i,0,none⟩)):=J.D.preCell 0 (by simp[ed]);rcases be with ai | ⟨j,hj,ag⟩
    ·have f:Hid (nI (cJ l x) l S n ⟨a,v,c⟩ H d=(((6,kR a s E),H,d),n)):=by
      show _=_;rw[I.out,A.out];simp[aK,V,ai]
     clear I A;(go_upto_region 8 with (go_at_call 232;refine(eI Y _ (by omega)).mono ?_;rintro e w5 ⟨rfl,rfl⟩));go_quiet ((go_at_call 51;exact Ss (ma i t l z0 Y _ (J.Wj ((aa.refl [] _).drewN _)).TB)));have T:=J.Wj ((aa.refl [] _).drewN nq);rw[ai];obtain⟨K,N,O,P⟩:=cD J.F;have y:=am J.F;have b:Hid _:=(fun g m o p=>kD T.D T.M (F:=w.heap.size+1) (by omega) (by omega) (B.out _ (by omega)) g m o p);go_wp2;exact Sa (v:=agg #[int i64 6,string a,int i64 (aR s E),int i64 (bC s E)]) (by simp[results,results206,go_sem,K,N,O,P]) rfl
      ⟨by rw[f.out];rfl,z,by rw[f.out];exact(b.out _ _ _ _).1,(b.out _ _ _ _).2,by rw[f.out];intro C;cases C⟩
    ·(go_upto_region 8 with (go_at_call 232;refine(eI Y _ (by omega)).mono ?_;rintro e w5 ⟨rfl,rfl⟩));go_quiet ((go_at_call 51;exact Ss (ma i t l z0 Y _ (J.Wj ((aa.refl [] _).drewN _)).TB)));rw[ag];have T:=J.Wj ((aa.refl [] _).drewN nq);go_wp2_with fail;refine(tJ D z1 a s _ hs az.2.1 T.SC).mono ?_;rintro e w6 ⟨rfl,ac,bj⟩;rw[hr2]at ac ⊢;simp only[fA]at ac ⊢;have S6:=T.next bj ac X bk ax al;obtain⟨W7,af⟩:∃W7,W7=w6.alloc (.cells #[string t2,int i64 u2,bool f2,string a,int i64 (aR s Q),int i64 (bC s Q)] 255):=⟨_,rfl⟩
     have a7:Hid _:=af.symm;have S7:sI w W7 L i t D z2 l z0 H d z a s:=(by rw[af];exact S6.Wj ((aa.refl [] _).alloc _));have I7:jL W7 w6.heap.size a s ⟨t2,u2,f2,Q⟩:=(by rw[af];exact R2 _ _);clear af J T S6 ac bj I4 g m o p a4 a5 b0;(go_upto_region 12 with fail);rw[a7.out];clear a7;obtain⟨g,m,o,p,a4,a5⟩:=I7.cells;go_wp2_with fail;refine(cY t2 a u2 (aR s Q) (bC s Q) f2 _).mono ?_;rintro e w8 ⟨rfl,ap⟩;have U:=S7.Wj ap;have I8:=I7.kept ap (by simp);clear g m o p a4 a5 S7 I7 ap;obtain⟨g,m,o,p,a4,a5⟩:=I8.cells;have ca:=ae I8;have ba:=ae U.F;have an:¬((j:Int)<0):=by omega
     cases G:(u2==0 && !f2)
     ·have f:Hid (nI (cJ l x) l S n ⟨a,v,c⟩ H d=((i9 a s ⟨t2,u2,f2,Q⟩,H,d),n)):=by
       show _=_;rw[I.out,A.out,ag];simp[aK,V,G,an]
      clear I A;go_wp2_with fail;refine(nJ t2 a u2 (aR s Q) (bC s Q) f2 _).mono ?_;rintro e w9 ⟨rfl,bw⟩;obtain⟨q,hq⟩:∃q:Int,Hid ((if f2=true then(7:Int) else u2)=q):=⟨_,rfl⟩
      rw[hq.out];have S9:=U.Wj bw;obtain⟨K,N,O,P⟩:=cD S9.F;have y:=am S9.F;have b:Hid _:=(fun g m o p=>kD S9.D S9.M (F:=w.heap.size+1) (by omega) (by omega) (B.out _ (by omega)) g m o p);clear g m o p a4 a5;go_wp2;exact Sa (v:=agg #[int i64 q,string a,int i64 (aR s Q),int i64 (bC s Q)]) (by simp[results,results206,go_sem,K,N,O,P]) rfl
       ⟨by rw[f.out,rt,hq.out],z,by rw[f.out];exact(b.out _ _ _ _).1,(b.out _ _ _ _).2,by
        rw[f.out];intro C
        exfalso
        simp only[i9]at C;cases f2
        ·simp at G C;exact G C
        ·simp at C⟩
     ·have bT:u2=0:=(by simp at G;exact G.1);have bs:f2=false:=(by simp at G;exact G.2);subst bT bs;cases bd:(t2.toList == [36,93])
      ·have f:Hid (nI (cJ l x) l S n ⟨a,v,c⟩ H d=(((5,kR a s Q),H,d),n)):=by
        show _=_;rw[I.out,A.out,ag];simp[aK,V,bd,an]
       clear I A;obtain⟨K,N,O,P⟩:=cD U.F;have y:=am U.F;have b:Hid _:=(fun g m o p=>kD U.D U.M (F:=w.heap.size+1) (by omega) (by omega) (B.out _ (by omega)) g m o p);go_wp2;exact Sa (v:=agg #[int i64 5,string a,int i64 (aR s Q),int i64 (bC s Q)]) (by simp[results,results206,go_sem,K,N,O,P]) rfl
        ⟨by rw[f.out];rfl,z,by rw[f.out];exact(b.out _ _ _ _).1,(b.out _ _ _ _).2,by rw[f.out];intro C;cases C⟩
      ·have f:Hid (nI (cJ l x) l S n ⟨a,v,c⟩ H d=(cJ l x j H d,z2)):=by
        show _=_;rw[I.out,A.out,ag];simp[aK,V,bd,an]
       clear I A;have RJ:=RF.out j w8 hj U.D U.TB;unfold jX at RJ;have aT:Hid _:=RJ;clear RJ RF;generalize cJ l x j H d=R at *;obtain⟨⟨r,pf,pl,pc⟩,b4,d'⟩:=R;simp only[ij]at aT;go_wp2_with fail;refine R0 aT.out ?_;rintro e w9 ⟨rfl,H9,D9,T9⟩;have F9:=T9.1.get U.F (by rintro (e | e);omega;exact B.out _ (by omega) e);have bp:b7 w9 D a s z2:=T9.1.get U.SC (by rintro (e | e);exact X e;exact ax e);obtain⟨K,N,O,P⟩:=cD F9;have y:=am F9;have b:Hid _:=(fun g m o p=>kD D9 (U.M.trans (T9.Wo D)) (F:=w.heap.size+1) (by omega) (by omega) (T9.fresh _ ba (B.out _ (by omega))) g m o p);have bo:Hid _:=(fun g m o p=>bp.kept (jE (r:=w.heap.size+1) g m o p) (by simp;omega));clear g m o p a4 a5;go_wp2;exact Sa (v:=agg #[int i64 r,string pf,int i64 pl,int i64 pc]) (by simp[results,results206,go_sem,K,N,O,P]) rfl
        ⟨by rw[f.out];rfl,H9,by rw[f.out];exact(b.out _ _ _ _).1,(b.out _ _ _ _).2,by rw[f.out];exact fun _=>bo.out _ _ _ _⟩
   ·have f:Hid (nI (cJ l x) l S n ⟨a,v,c⟩ H d=(((5,kR a s E),H,d),n)):=by
     show _=_;rw[I.out,A.out];simp[aK,V]
    clear I A;obtain⟨K,N,O,P⟩:=cD J.F;have y:=am J.F;have b:Hid _:=(fun g m o p=>kD J.D J.M (F:=w.heap.size+1) (by omega) (by omega) (B.out _ (by omega)) g m o p);go_wp2_with (go_at_call 232;refine(eI Y _ (by omega)).mono ?_;rintro e w5 ⟨rfl,rfl⟩);exact Sa (v:=agg #[int i64 5,string a,int i64 (aR s E),int i64 (bC s E)]) (by simp[results,results206,go_sem,K,N,O,P]) rfl
     ⟨by rw[f.out];rfl,z,by rw[f.out];exact(b.out _ _ _ _).1,(b.out _ _ _ _).2,by rw[f.out];intro C;cases C⟩
 ·have f:Hid (nI (cJ l x) l S n ⟨a,v,c⟩ H d=(((4,⟨a,v,c⟩),H,d),n)):=by
   show _=_;rw[I.out,A.out,ho];simp
  clear I A;obtain⟨i0,i1,i2⟩:=vH hP;obtain⟨K,N,O,P⟩:=cD hF;have y:=am hF;have b:Hid _:=(fun g m o p=>kD aS MK.out (F:=w.heap.size+1) (by omega) (by omega) (B.out _ (by omega)) g m o p);go_enter func206,ntmps206;go_upto_region 1 with fail
  rw[HW.out];go_wp2_with fail;refine(tK L 200 5 (ed i H) [] d z _ aS (jG i H bc)).mono ?_;rintro e w1 ⟨rfl,u⟩;subst u;rw[ho];go_wp2;exact Sa (v:=agg #[int i64 4,string a,int i64 v,int i64 c]) (by simp[results,results206,go_sem,K,N,O,P]) rfl
   ⟨by rw[f.out];rfl,z,by rw[f.out];exact(b.out _ _ _ _).1,(b.out _ _ _ _).2,by rw[f.out];intro C;cases C⟩
theorem AZ(B:H.length=4)(d:Db)(g:Nat->Hd)(a s f:ByteArray)(b c:Int)(w:World)(h:aV w L 200 (ed i H) [] d g)(hn:aD l S=a)(Y:ak l S=s)(hs:s.size<=1024)(hz:n<=s.size)(p:b7 w D a s n)(ht:bF w i t l z0)(m:D≠L)(ad:i≠D)(E:¬gO g D)(Z:ge d 10000000)(ac:f.size<=1073741824)(X:Bx d 100000000)(RF:Hid (∀(j:Nat) (o:World),j<l.length->aV o L 200 (ed i H) [] d g->bF o i t l z0->jX L i l x j H d g o)) :
  Calls prog 158 #[pointer (some ⟨L,0,none⟩),pointer (some ⟨D,0,none⟩),agg #[string f,int i64 0,bool false,string a,int i64 b,int i64 c]] w fun e o =>
   e=returned (ij (j9 (cJ l x) l S n f ⟨a,b,c⟩ H d).1.1)/\∃G,aV o L 200 (ed i (j9 (cJ l x) l S n f ⟨a,b,c⟩ H d).1.2.1) [] (j9 (cJ l x) l S n f ⟨a,b,c⟩ H d).1.2.2 G/\f8 L D w g o G /\
    (((j9 (cJ l x) l S n f ⟨a,b,c⟩ H d).1.1.1==0)=true->b7 o D a s (j9 (cJ l x) l S n f ⟨a,b,c⟩ H d).2):=by
 cases V:(f.toList == [36,91])
 ·have I:j9 (cJ l x) l S n f ⟨a,b,c⟩ H d=((if((aX d f ⟨a,b,c⟩).1==0)=true then cM else((aX d f ⟨a,b,c⟩).1,⟨a,b,c⟩),H,(aX d f ⟨a,b,c⟩).2),n):=by
   unfold j9;rw[V];simp
  rw[I];refine(uJ L 200 i H B d g _ f a b c w h Z ac X V).mono ?_;rintro e o ⟨rfl,G,D',T'⟩;exact⟨rfl,G,D',T'.Wo D,fun _=>T'.1.get p (by rintro (e | e);exact m e;exact E e)⟩
 ·have I:j9 (cJ l x) l S n f ⟨a,b,c⟩ H d=nI (cJ l x) l S n ⟨a,b,c⟩ H d:=by
   unfold j9;rw[V];simp
  rw[I];obtain⟨W,A⟩:∃W,W=((w.alloc (.cells #[string f,int i64 0,bool false,string a,int i64 b,int i64 c] 255)).alloc (.cells #[int i64 0,string ⟨#[]⟩,int i64 0,int i64 0] 87)):=⟨_,rfl⟩
  have J:aa [] w W:=by rw[A];exact((aa.refl [] w).alloc _).alloc _
  have ai:=h.lt;have af:=ae p;have hI:W.heap[w.heap.size]?=some (.cells #[string f,int i64 0,bool false,string a,int i64 b,int i64 c] 255):=by
   rw[A];exact((aa.refl [] _).alloc _).get (R2 _ _) (by simp)
  have hF:W.heap[w.heap.size+1]?=some (.cells bD 87):=by
   rw[A];have:=R2 (w.alloc (.cells #[string f,int i64 0,bool false,string a,int i64 b,int i64 c] 255)) (.cells #[int i64 0,string ⟨#[]⟩,int i64 0,int i64 0] 87);simpa [bD] using this
  obtain⟨i0,-,-,i3,i4,i5⟩:=IM hI;have IC:=Cy L i t D x S n l z0 H B d g a s b c W (h.Wj J) hn Y hs hz (p.kept J (by simp)) (ht.kept J (by simp)) m ad E RF;have u:Hid _:=IC;have v:Hid (∀k,w.heap.size<=k->¬gO g k):=fun k hk hm=>by have:=h.inlt hm;omega
  have HW:Hid _:=A.symm;have T:=ae hF;clear A IC RF I h;generalize nI (cJ l x) l S n ⟨a,b,c⟩ H d=R at *;obtain⟨⟨⟨r,pf,pl,pc⟩,ag,d'⟩,z'⟩:=R;simp only[ij]at u ⊢;go_enter func158,ntmps158;go_upto_region 1 with fail
  rw[HW.out];go_wp2_with fail;refine R0 u.out ?_;rintro e w2 ⟨rfl,H2,D2,M,C⟩;have z:=M.1.get hF (by rintro (e | e | e);omega;omega;exact v.out _ (by omega) e);obtain⟨j0,j1,j2,j3⟩:=cD z;have y:=am z;have q:Hid _:=(fun N O P Q=>kD D2 (M.first J) (F:=w.heap.size+1) (by omega) (by omega) (M.fresh _ T (v.out _ (by omega))) N O P Q);have K:Hid _:=(fun N O P Q U=>(C U).kept (jE (r:=w.heap.size+1) N O P Q) (by simp;omega));clear C i0 i3 i4 i5;go_wp2;exact Sa (v:=agg #[int i64 r,string pf,int i64 pl,int i64 pc]) (by simp[results,results158,go_sem,j0,j1,j2,j3]) rfl
   ⟨rfl,H2,(q.out _ _ _ _).1,(q.out _ _ _ _).2,fun U=>K.out _ _ _ _ U⟩
set_option maxRecDepth 512
theorem CR :
  Calls prog 154 #[agg #[string zt,string z4]] z7 fun e a=>∃s,e=returned (pointer (some ⟨s,0,none⟩))/\z7.heap.size<=s/\b7 a s zt z4 0/\aa [] z7 a:=by
 go_enter func154,ntmps154;go_wp2;go_ret;refine⟨z7.heap.size+1,rfl,by omega,?_,((aa.refl _ _).alloc _).alloc _⟩;have:=R2 (z7.alloc (.cells #[string zt,string z4] 68)) (.cells #[string zt,string z4,int i64 0,int i64 1,int i64 1] 300);simpa [b7,na,aR,bC] using this
theorem aB.beyond(a:aB f T y k d)(b:aa y3 k M)(e:∀x,x∈y3->T.heap.size<=x):aB f T y M d :=
 ⟨⟨b.os.trans a.1.os,b.tape.trans a.1.tape,b.output.trans a.1.output,Sc a.1.size b.size,fun i c j=>by
  rw[<-a.1.block i c j];exact b.block i (R6 c a.1.size) (fun g=>by have:=e i g;omega)⟩,a.2⟩
theorem aB.word(b:aB f T y k d)(c:f8 f a k d M y2)(m:T.heap.size<=a):aB f T y M y2:=by
 refine⟨⟨c.1.os.trans b.1.os,c.1.tape.trans b.1.tape,c.1.output.trans b.1.output,Sc b.1.size c.1.size,?_⟩,?_⟩
 ·intro g i j;rw[<-b.1.block g i j];refine c.1.block g (R6 i b.1.size) ?_;rintro (e | e | l)
  ·exact j (R4 e)
  ·omega
  ·rcases b.2 g l with h | h
   ·exact j (RZ h)
   ·omega
 ·intro g i;rcases c.2 g i with h | h
  ·exact b.2 g h
  ·exact RZ (Sc b.1.size h)
theorem JL:(ed n H).set (1+m) (bool true)=ed n (H.set m true):=by
 unfold ed;rw[Nat.add_comm 1 m,TZ,UE]
theorem C2(h:H.length=4)(a:m<4):(ed n H)[1+m]?=some (bool (H.getD m true)):=by
 unfold ed;rw[Nat.add_comm 1 m,Ub,Sy,RT];rw[RQ (by omega)];rfl
set_option maxRecDepth 100000
theorem xy(a:H.length=4)(d:Db)(b:Nat->Hd)(w:World)(g:n<4)(h:aV w D 200 (ed x H) [] d b)(c:H.getD n true=true):jX D x l S n H d b w:=by
 unfold jX cJ;rw[RY c];have f:=h.lt;have e:=h.preCell (1+n) (by rw[jG x H a];omega);rw[C2 x H n a g,c]at e;have j:Hid (¬gO b w.heap.size):=fun i=>by have:=h.inlt i;omega
 go_enter func112,ntmps112;go_wp2;exact Sa (v:=agg #[int i64 0,string ⟨#[]⟩,int i64 0,int i64 0]) (by simp[results,results112,go_sem]) rfl
  ⟨rfl,b,h.Wj ((aa.refl [] _).alloc _),(aB.refl _ _ _).Wj ((aa.refl [] _).alloc _)⟩
end Go.Proofs.YtnbhnocdhbcbcaaGreat
