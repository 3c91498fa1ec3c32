import Derived.Test.YtnbalopedcgpcaaGreatJ11
namespace Go.Proofs.YtnbalopedcgpcaaGreat
open Go.RowKit
set_option maxHeartbeats 0
section
open Go.ChangeShapes Go.WideShapes Go.ChangeAt Go.RowKit
open Go.ChangeMaps (open_string shut_string)
def tG:Prop:=∀(ao:Vt) (cap:Nat) (l:Vs) (a c:Int) (w:World),l.length<=140737488351232->(∀x,x∈l->x.size<=140737488351232)->-9223372036854775808<=a->a<=9223372036854775807->-9223372036854775808<=c->c<=9223372036854775807 ->
  (l.length=0∨∃b off,ao=some ⟨b,off,none⟩/\kB w b off l) ->
  Calls Tryz.prog 5 #[.slice ao l.length cap,.int .i64 a,.int .i64 c] w fun e w'=>e=.returned (.bool true)/\Below w.heap.size w w'
set_option maxRecDepth 100000
theorem EV(B:tG)(L:Os)(d:L.Started)(H:Type)(b:TypeId×Value->H) :
  ReturnsInHanded {} Tryz.checked L 5 .any (Rows.joinedSpec.pre6 b Tryz.prog Tryz.f5 Rows.joinedRow.domain false) (Rows.joinedSpec.post b Tryz.prog Tryz.f5 false true false false):=by
 refine returnsInHanded_of_change_sized (C:=Tryz.checked) ZP d (by kernel_rfl) Tryz.func5
  (ChangeSpec.witness6 (enc:=b) (C:=Tryz.checked) false ⟨#[],#[.slice none 0 0,.int .i64 0,.int .i64 0],[]⟩ 8 (by kernel_rfl) (by kernel_rfl) (by kernel_rfl) (by kernel_rfl)) ?_
 intro W k f D N u c G _ s _;have r:(DataW.weightsEach Tryz.prog (Tryz.f5.params.toList++Rows.joinedSpec.plain.varTypes Tryz.prog) (D++N)).all (·<=reachBytes)=true:=s;have a:∀(j:Nat) t v,Tryz.f5.params[j]?=some t->f[j]?=some v->Value.okWide Tryz.prog W .any k t v:=c;have w:=G;obtain⟨p,q,o,R,rfl,S,ad⟩:=G;have F:DataW.TrodAll b Tryz.prog W 0 (fun _=>true) true Tryz.f5.params.toList f.toList D p:=o;rw[Tryz.params5]at F a r;obtain⟨v0,v1,v2,d0,d1,d2,p0,p1,p2,rfl,rfl,rfl,E,O,P⟩:=trodAll_three F;obtain⟨rfl,rfl⟩:=trodVars_none R;obtain⟨M,K,n,rfl⟩:=okWide_slice Tryz.underlying22 (a 0 22 v0 rfl rfl);have I:=E;have A:∀x∈p0,x.block<W.heap.size:=by obtain⟨m,V⟩:=I;exact DataW.trod_lt m _ _ _ V
 obtain⟨l,T,U,y,z⟩:=Oq E r rfl rfl;obtain⟨n1,rfl,rfl,rfl,g⟩:=open_int Tryz.underlying3 (a 1 3 v1 rfl rfl) O;obtain⟨n2,rfl,rfl,rfl,i⟩:=open_int Tryz.underlying3 (a 2 3 v2 rfl rfl) P;subst T;clear o c;refine(B M n l n1 n2 W (by omega) y (bounds_i64 g).1 (bounds_i64 g).2 (bounds_i64 i).1 (bounds_i64 i).2 z).mono fun e W' ⟨he,bel⟩=>?_;subst he;exact⟨_,rfl,_,_,_,[],_,[],w,trodAll_mk1 (shut_bool Tryz.underlying4 _),(trodAll_mk3 (Below.trod zbJ (by kernel_rfl) (of_decide_eq_true (by kernel_rfl)) I bel A) (shut_int Tryz.underlying3 g) (shut_int Tryz.underlying3 i)),rfl,bel.frame _,fun h=>by cases h⟩
theorem KR(c:tG):Rows.joinedRow.holds Tryz.pinned (OpenSpec.ofChange Rows.joinedSpec) :=
 OpenClaim.holds_of_wide 5 Tryz.f5 rfl rfl rfl rfl rfl rfl rfl ⟨rfl,rfl,rfl,rfl,rfl⟩ rfl rfl rfl rfl rfl (by kernel_rfl) Tryz.func5 (by kernel_rfl)
  (of_decide_eq_true (by kernel_rfl)) (by unfold Func.isWrapper;first | (rw[if_pos (by decide +kernel)];kernel_rfl) | (rw[if_neg (by decide +kernel)];exact⟨rfl,rfl⟩))
  (fun d a H b _=>EV c d a H b)
end
end Go.Proofs.YtnbalopedcgpcaaGreat
