import Derived.Test.YtnbalopedcgpcaaGreatG36
namespace Go.Proofs.YtnbalopedcgpcaaGreat
open Go.RowKit
open Option renaming none->XJ,some->XK
open Bool renaming true->XL,false->XM
open Go renaming Calls->XO,World->XP,Value->XQ
set_option maxHeartbeats 0
section
open Go.ChangeShapes Go.WideShapes Go.ChangeAt Go.RowKit
open Go.ChangeMaps (open_string shut_string)
def lA:Prop:=∀(ao:Option Addr) (cap:Nat) (l:List ByteArray) (a:Int) (d:ByteArray) (w:XP),l.length<=140737488351232->(∀x,x∈l->x.size<=140737488351232)->-9223372036854775808<=a->a<=9223372036854775807->d.size<=140737488351232 ->
  (l.length=0∨∃b off,ao=XK ⟨b,off,XJ⟩/\iD w b off l) ->
  XO Tryz.prog 3 #[.slice ao l.length cap,.int .i64 a,.string d] w fun e w'=>e=.returned (.bool XL)/\Below w.heap.size w w'
set_option maxRecDepth 100000
theorem un(X:lA)(L:Os)(d:L.Started)(H:Type)(b:TypeId×XQ->H) :
  ReturnsInHanded {} Tryz.checked L 3 .any (Rows.derivedSpec.pre6 b Tryz.prog Tryz.f3 Rows.derivedRow.domain XM) (Rows.derivedSpec.post b Tryz.prog Tryz.f3 XM XL XM XM):=by
 refine returnsInHanded_of_change_sized (C:=Tryz.checked) own d (by kernel_rfl) Tryz.func3
  (ChangeSpec.witness6 (enc:=b) (C:=Tryz.checked) XM ⟨#[],#[.slice XJ 0 0,.int .i64 0,.string ⟨#[]⟩],[]⟩ 8 (by kernel_rfl) (by kernel_rfl) (by kernel_rfl) (by kernel_rfl)) ?_
 intro W k f E N u c I _ s _;have i:(DataW.weightsEach Tryz.prog (Tryz.f3.params.toList++Rows.derivedSpec.plain.varTypes Tryz.prog) (E++N)).all (·<=reachBytes)=XL:=s;have a:∀(j:Nat) t v,Tryz.f3.params[j]?=XK t->f[j]?=XK v->Value.okWide Tryz.prog W .any k t v:=c;have w:=I;obtain⟨p,q,o,Q,rfl,R,V⟩:=I;have G:DataW.TrodAll b Tryz.prog W 0 (fun _=>XL) XL Tryz.f3.params.toList f.toList E p:=o;rw[Tryz.params3]at G a i;obtain⟨v0,v1,v2,d0,d1,d2,Z,p1,p2,rfl,rfl,rfl,F,O,P⟩:=trodAll_three G;obtain⟨rfl,rfl⟩:=trodVars_none Q;obtain⟨M,K,n,rfl⟩:=okWide_slice Tryz.underlying22 (a 0 22 v0 rfl rfl);have J:=F;have B:∀x∈Z,x.block<W.heap.size:=by obtain⟨m,U⟩:=J;exact DataW.trod_lt m _ _ _ U
 obtain⟨l,S,T,y,z⟩:=EE F i rfl rfl;obtain⟨Y,rfl,rfl,rfl,g⟩:=open_int Tryz.underlying3 (a 1 3 v1 rfl rfl) O;obtain⟨D,rfl,rfl,rfl,A⟩:=open_string Tryz.underlying9 (a 2 9 v2 rfl rfl) P;have r:=sized_string i (j:=2) (bytes:=D.data.toList) rfl rfl;simp only[reachBytes]at r;subst S;clear o c;refine(X M n l Y D W (by omega) y (bounds_i64 g).1 (bounds_i64 g).2 (show D.size<=140737488351232 from r) z).mono fun e W' ⟨he,bel⟩=>?_;subst he;exact⟨_,rfl,_,_,_,[],_,[],w,trodAll_mk1 (shut_bool Tryz.underlying4 _),(trodAll_mk3 (Below.trod Lw (by kernel_rfl) (of_decide_eq_true (by kernel_rfl)) J bel B) (shut_int Tryz.underlying3 g) (shut_string Tryz.underlying9 A)),rfl,bel.frame _,fun h=>by cases h⟩
theorem yF(X:lA):Rows.derivedRow.holds Tryz.pinned (OpenSpec.ofChange Rows.derivedSpec) :=
 OpenClaim.holds_of_wide 3 Tryz.f3 rfl rfl rfl rfl rfl rfl rfl ⟨rfl,rfl,rfl,rfl,rfl⟩ rfl rfl rfl rfl rfl (by kernel_rfl) Tryz.func3 (by kernel_rfl)
  (of_decide_eq_true (by kernel_rfl)) (by unfold Func.isWrapper;first | (rw[if_pos (by decide +kernel)];kernel_rfl) | (rw[if_neg (by decide +kernel)];exact⟨rfl,rfl⟩))
  (fun c a H b _=>un X c a H b)
end
end Go.Proofs.YtnbalopedcgpcaaGreat
