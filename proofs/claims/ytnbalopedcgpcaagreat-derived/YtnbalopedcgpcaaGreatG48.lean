import Derived.Test.YtnbalopedcgpcaaGreatG37
import Derived.Test.YtnbalopedcgpcaaGreatG47
namespace Go.Proofs.YtnbalopedcgpcaaGreat
open Go.RowKit
set_option maxHeartbeats 0
set_option maxRecDepth 100000 in
theorem J9(b x:Nat)(T:ByteArray)(o:Option Nat)(c:Int)(code:ByteArray)(w:World)(hW:aR w b x T o)(hR:bu T=[]∨fd w x (b+1) 0 T)(hx:x≠b)(hT:dV T)(hc:-9223372036854775808<=c/\c<=9223372036854775807) :
  Calls Tryz.prog 11 #[.pointer (some ⟨b,0,none⟩),.int .i64 c,.string code] w fun e w'=>e=.returned (.bool true)/\aa [x] w w':=by
 cases o with
 | none =>
  obtain⟨-,-,c2⟩:=hW.cells;rw[show eV none (bu T).length=.slice none 0 0 from rfl]at c2;have hbw:=hW.lt;clear hW hR;go_enter Tryz.func11,Tryz.ntmps11;go_wp2;go_ret;exact⟨rfl,aa.refl _ _⟩
 | some gr =>
  rcases hR with h0 | ⟨fs,Hr,g,h1,-,-,h4⟩
  ·have:=hW.rows.1
   rw[h0]at this;exact absurd this (by simp)
  ·exact GD b x gr _ T fs Hr g c code w hW h1 h4 hx hT hc rfl
set_option maxRecDepth 100000 in
theorem yG:lA:=by
 intro ao cap l a d w hl hls ha1 ha2 hds hc;have ha:-9223372036854775808<=a/\a<=9223372036854775807:=⟨ha1,ha2⟩;have HSM:=(show Hid _ from JV ao cap l w hl hls hc);go_enter Tryz.func3,Tryz.ntmps3;go_wp2_with fail;refine Calls.mono HSM.out ?_;rintro e w1 ⟨⟨r,rfl,hr⟩,hw1⟩;subst hw1
 cases r
 ·go_wp2
  go_ret;exact⟨rfl,Below.refl _ _⟩
 ·obtain⟨hl1,hl2⟩:=hr rfl
  by_cases hd:1073741824<d.size
  ·go_wp2
   go_ret;exact⟨rfl,Below.refl _ _⟩
  ·go_wp2_with fail
   refine(DR _).mono ?_;rintro e w2 ⟨rfl,hV2,hk2⟩;go_wp2_with fail;refine(pL _ ⟨#[109]⟩ _ [] _ hV2.anyR (by decide) (by decide)).mono ?_;rintro e w3 ⟨rfl,-,h3,hk3⟩;have hB3:=h3 (by decide +kernel);go_wp2_with fail;refine(AG _ _ _ _ _ hB3).mono ?_;rintro e w4 ⟨res,rfl,bo,rfl,x4,-,hk4⟩;obtain rfl:bo=none:=x4.nil.2 rfl
   have hk14:aa [] w1 w4:=by
    have a1:aa [w1.heap.size] w1 w4:=((hk2.mono (by simp)).trans hk3).trans (hk4.mono (by simp));exact⟨a1.os,a1.tape,a1.output,a1.size,fun k hk _=>a1.block k hk (by simp;omega)⟩
   go_wp2_with fail;refine(BC ao cap l w4 hl1 hl2 (hc.imp id (fun⟨b,off,e1,e2⟩=>⟨b,off,e1,e2.kept hk14 (by simp)⟩))).mono ?_;rintro e w5 ⟨b,x,rfl,⟨la,lb,lc,⟨T,o,hW,hT,hRp⟩,-⟩,hk5⟩;go_wp2_with fail;refine(J9 b x T o a d _ hW hRp lc hT ha).mono ?_;rintro e w6 ⟨rfl,hk6⟩;go_wp2;go_ret;refine⟨rfl,?_⟩;have hk:aa [x] w1 w6:=((hk14.trans hk5).mono (by simp)).trans hk6;have hs:=hk14.size;exact⟨hk.os,hk.tape,hk.output,hk.size,fun k hk'=>hk.block k hk' (by simp;omega)⟩
theorem derived_holds:Rows.DerivedSaid:=yF yG
end Go.Proofs.YtnbalopedcgpcaaGreat
