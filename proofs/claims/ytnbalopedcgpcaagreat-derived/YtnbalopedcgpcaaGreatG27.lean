import Derived.Test.YtnbalopedcgpcaaGreatG26
namespace Go.Proofs.YtnbalopedcgpcaaGreat
open Go.RowKit Tryz
open Bool renaming true->XL,false->XM
set_option maxHeartbeats 0
variable{H f:ByteArray}(b w:ByteArray)(l:UInt8)
theorem zg(o:l=10∨l=32)(k:cS b=XM)(m:cS w=XM):cS (b++⟨#[l]⟩++w)=XM:=by
 rw[j6]at k m ⊢;have g:(⟨#[l]⟩:ByteArray).size=1:=rfl;have q:(b++⟨#[l]⟩++w).size=b.size+1+w.size:=by rw[Qd,Qd,g]
 have left:∀i,i<b.size->ar (b++⟨#[l]⟩++w) i=ar b i:=fun i e=>by
  rw[aW _ _ _ (by rw[Qd,g];omega),aW _ _ _ e]
 have f:ar (b++⟨#[l]⟩++w) b.size=(l.toNat:Int):=by
  rw[aW _ _ _ (by rw[Qd,g];omega)];have:=bi b ⟨#[l]⟩ 0 (by rw[g];omega);rw[QT]at this;rw[this];rfl
 have right:∀i,i<w.size->ar (b++⟨#[l]⟩++w) (b.size+1+i)=ar w i:=fun i e=>by
  have:=bi (b++⟨#[l]⟩) w i e;rw[Qd,g]at this;exact this
 have d:(l.toNat:Int)≠36/\(l.toNat:Int)≠91:=by rcases o with rfl | rfl <;> decide
 rintro i e ⟨a,c⟩;rw[q]at e;by_cases n:i+1<b.size
 ·rw[left i (by omega)]at a;rw[left (i+1) n]at c;exact k i (by omega) ⟨a,c⟩
 ·by_cases r:b.size<i
  ·obtain⟨j,rfl⟩:∃j,i=b.size+1+j:=⟨i-(b.size+1),by omega⟩
   rw[right j (by omega)]at a;rw[show b.size+1+j+1=b.size+1+(j+1) by omega,right (j+1) (by omega)]at c;exact m j (by omega) ⟨a,c⟩
  ·by_cases p:i=b.size
   ·rw[p,f]at a;exact d.1 a
   ·have:i+1=b.size:=(by omega);rw[this,f]at c;exact d.2 c
theorem BD(L:List (UInt8×ByteArray))(a:∀y∈L,(y.1=10∨y.1=32)/\cS y.2=XM):∀A,cS A=XM->cS (A++cq L)=XM:=by
 induction L with
 | nil=>intro A h;rw[show A++cq []=A from nil_append A];exact h
 | cons y L g =>
  obtain⟨b,x⟩:=y;intro A h;obtain⟨c,d⟩:=a (b,x) (by simp);have e:A++cq ((b,x) :: L)=(A++⟨#[b]⟩++x)++cq L:=by simp only[cq,ByteArray.append_assoc]
  rw[e];exact g (fun y f=>a y (Qv _ f)) _ (zg A x b c h d)
theorem E8(b:Wd w):cS w=XM:=by
 rw[j6];rintro i c ⟨a,-⟩;exact(b.2 i (by omega)).2 a
theorem II(h:l≠91):cS (kw l)=XM:=by
 rw[j6];rintro i c ⟨b,a⟩;have d:(kw l).size=2:=rfl;have:i=0:=by omega
 subst this;have e:ar (kw l) (0+1)=(l.toNat:Int):=rfl;rw[e]at a;exact h (UInt8.toNat_inj.1 (by show l.toNat=91;omega))
def AY(x:ByteArray):Prop:=Wd x∨∃c:UInt8,x=kw c/\c≠91/\c≠40/\33<=c.toNat/\c.toNat<=126
theorem AY.wrd(h:AY H):Oj H/\cS H=XM:=by
 rcases h with h | ⟨c,rfl,a,b,d⟩
 ·exact⟨h.wrd,E8 H h⟩
 ·exact⟨Ny c d b,II c a⟩
theorem dV.idle(h:dV H):lB (aJ H).2/\(aJ H).2.blocks=[]:=by
 obtain⟨c,d,-⟩:=h.left;obtain⟨b,e⟩:=FE c;have a:=Cr H;exact⟨⟨b,a.nne (P0 b),a.prf (by omega),d⟩,e⟩
theorem zX(d:dV w)(x:ByteArray)(L:List (UInt8×ByteArray))(k:AY x)(j:∀y∈L,(y.1=10∨y.1=32)/\AY y.2)(R:Db->Prop)(h:bz (x :: L.map (·.2)) (aJ w).2 (fun c=>de c=XM/\R c)) :
  ∃c,aJ (w++cq ((10,x) :: L))=((0,0),c)/\R c/\cS (w++cq ((10,x) :: L))=XM:=by
 have a:∀y∈(10,x) :: L,(y.1=10∨y.1=32)/\AY y.2:=by
  intro y b;rcases Q5.1 b with rfl | b
  ·exact⟨P0 rfl,k⟩
  ·exact j y b
 obtain⟨c,f,g,i⟩:=h (i9 ⟨#[109]⟩ (w++cq ((10,x) :: L)) w.size ((10,x) :: L)) (by rw[uv];rfl);refine⟨c,FX w d 10 x L rfl (fun y b=>⟨?_,(a y b).2.wrd.1⟩) c f g,i,BD _ (fun y b=>⟨(a y b).1,(a y b).2.wrd.2⟩) w d.inc⟩;rcases(a y b).1 with e | e <;> rw[e] <;> rfl
structure lx(T z:ByteArray):Prop where
 fresh:¬qF T z
 wd:∀y:ByteArray,(∀i,i<y.size->dQ (ar y i)=XL/\ar y i≠36/\gI (ar y i)=XL)->Wd (z++y)/\dF (z++y)=XL
 size:z.size<=6
theorem Ko(n:Nat)(a:n<=1024)(h:¬qF w (zF n)):lx w (zF n):=⟨h,fun y b=>OV n a y b,by have:=mM n;have:=yJ n a;omega⟩
def ja(l:List UInt8):ByteArray:=⟨l.toArray⟩
theorem pF(l:List UInt8):(ja l).toList=l:=by unfold ja;rw[QF]
def jG(l:List UInt8):Bool:=l.all (fun b=>dQ (b.toNat:Int) && !((b.toNat:Int)==36)&&gI (b.toNat:Int))
theorem lx.name(h:lx H f)(l:List UInt8)(d:jG l=XL):Wd (f++ja l)/\dF (f++ja l)=XL:=by
 refine h.wd _ (fun i b=>?_);have a:i<l.length:=by simpa [ja,ByteArray.size] using b
 have c:ar (ja l) i=((l[i]'a).toNat:Int):=by
  rw[aY _ _ b];simp[ja,ByteArray.getElem_eq_getElem_data]
 rw[c];have:=QR.1 d _ (PT a);simp only[Bool.and_eq_true,Bool.not_eq_true',beq_eq_false_iff_ne]at this;exact⟨this.1.1,this.1.2,this.2⟩
theorem lx.not_has(h:lx H f){d:Db}(b:Nm (GR H) d)(y:ByteArray):aM d.Uu (f++y)=XM/\aM d.Uo (f++y)=XM/\aM d.Up (f++y)=XM/\aM d.Uv (f++y)=XM/\aM d.Uy (f++y)=XM :=
 ⟨jY h.fresh _ (fun x a=>(b.lab x a).2) y,jY h.fresh _ (fun x a=>(b.con x a).2) y,jY h.fresh _ (fun x a=>(b.var x a).2) y,jY h.fresh _ (fun x a=>(b.act x a).2) y,jY h.fresh _ (fun x a=>(b.typ x a).2) y⟩
theorem i8(l m:List ByteArray)(x:ByteArray):aM (l++m) x=(aM l x||aM m x):=by unfold aM;rw[SB]
theorem wL:aM [b] w=(b.toList==w.toList):=by unfold aM;simp
def xf(z:ByteArray):List (UInt8×ByteArray):=[(32,z++ja [113]),(32,kw 46),(32,z++ja [97]),(32,kw 97),(32,z++ja [113]),(32,kw 46)]
theorem FG(l:dV b)(i:lx b w):bz (kw 99 :: (xf w).map (·.2)) (aJ b).2 (fun j=>de j=XM/\∃p,j.UD=(aJ b).2.UD++[⟨4,w++ja [97],[w++ja [113]],[],p,0⟩]):=by
 obtain⟨e,m⟩:=l.idle;have o:=mF b l.size;generalize (aJ b).2=d at *;obtain⟨r,G⟩:=i.name [113] (by decide);obtain⟨s,t⟩:=i.name [97] (by decide);obtain⟨A,B,C,-,-⟩:=i.not_has o (ja [113]);obtain⟨v,x,z,-,-⟩:=i.not_has o (ja [97]);have D:((w++ja [113]).toList==(w++ja [97]).toList)=XM:=by rw[Do,pF,pF];decide
 show bz ([kw 99,w++ja [113],kw 46]++[w++ja [97],kw 97,w++ja [113],kw 46]) d _;refine bz.append (OO e m (w++ja [113]) r (by unfold cm;rw[A,B,C];rfl)) ?_;rintro F rfl;have k:lB { d with Uo:=d.Uo++[w++ja [113]],label:=⟨#[]⟩ }:=⟨e.kind,e.syms,e.prf,e.pr⟩;refine(JK k (w++ja [97]) s t ?_ 97 4 (P7 (P7 ⟨rfl,rfl⟩)) [w++ja [113]] (fun y f=>by rw[Qn.1 f];exact r) (by simp) (fun h=>by cases h) ?_).mono ?_
 ·unfold cm;simp only[i8,wL,v,x,z,D,Bool.or_self]
 ·intro c y g n;have u:c=[]:=by
   cases c with
   | nil=>rfl
   | cons a c=>simp at n
  subst u;have f:y=w++ja [113]/\g=[]:=by simpa using n.symm
  obtain⟨f,-⟩:=f;subst f;unfold aC;rw[PV (show ¬((4:Int)==7)=XL by decide),PV (show ¬((4:Int)==8)=XL by decide),PV (show ¬((4:Int)==1)=XL by decide),PZ (by rfl)];unfold dD;rw[PV];show ¬aM (d.Uo++[w++ja [113]]) (w++ja [113])=XM;rw[zc];simp
 ·rintro j ⟨p,rfl⟩;refine⟨?_,p,rfl⟩;show de { d with kind:=d.kind,blocks:=d.blocks }=XM;unfold de;rw[e.kind,m];rfl
theorem Ch:b++⟨#[10,36,99,32]⟩++w++⟨#[113,32,36,46,32]⟩++w++⟨#[97,32,36,97,32]⟩++w++⟨#[113,32,36,46]⟩=b++cq ((10,kw 99) :: xf w):=by
 apply Sy;apply Su.1;simp[xf,cq,kw,ja,ByteArray.data_append]
theorem Cg(d:dV b)(c:lx b w):∃a p,aJ (b++cq ((10,kw 99) :: xf w))=((0,0),a)/\a.UD=(aJ b).2.UD++[⟨4,w++ja [97],[w++ja [113]],[],p,0⟩]/\cS (b++cq ((10,kw 99) :: xf w))=XM:=by
 obtain⟨a,i,⟨p,j⟩,k⟩:=zX b d (kw 99) (xf w) (P7 ⟨99,rfl,by decide⟩) (fun y e=>by
  have f:=(c.name [113] (by decide)).1;have g:=(c.name [97] (by decide)).1;simp only[xf,List.mem_cons,List.not_mem_nil,or_false]at e;rcases e with rfl | rfl | rfl | rfl | rfl | rfl
  ·exact⟨P7 rfl,P0 f⟩
  ·exact⟨P7 rfl,P7 ⟨46,rfl,by decide⟩⟩
  ·exact⟨P7 rfl,P0 g⟩
  ·exact⟨P7 rfl,P7 ⟨97,rfl,by decide⟩⟩
  ·exact⟨P7 rfl,P0 f⟩
  ·exact⟨P7 rfl,P7 ⟨46,rfl,by decide⟩⟩) _ (FG b w d c)
 exact⟨a,p,i,j,k⟩
end Go.Proofs.YtnbalopedcgpcaaGreat
