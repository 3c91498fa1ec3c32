import Derived.Test.YtnbalopedcgpcaaGreatJ12
import Derived.Test.YtnbalopedcgpcaaGreatJ38
namespace Go.Proofs.YtnbalopedcgpcaaGreat
open Go.RowKit
set_option maxHeartbeats 0
set_option maxRecDepth 100000 in
theorem Tq(b x:Nat)(T:ByteArray)(o:Option Nat)(a c:Int)(w:World)(hW:aU w b x T o)(hR:bi T=[]∨jk w x (b+1) 0 T)(hx:x≠b)(hT:dp T)(ha:-9223372036854775808<=a/\a<=9223372036854775807)(hc:-9223372036854775808<=c/\c<=9223372036854775807) :
  Calls Tryz.prog 14 #[.pointer (some ⟨b,0,none⟩),.int .i64 a,.int .i64 c] w fun e w'=>e=.returned (.bool true)/\ab [x] w w':=by
 cases o with
 | none =>
  obtain⟨-,-,c2⟩:=hW.cells;rw[show gA none (bi T).length=.slice none 0 0 from rfl]at c2;have hbw:=hW.lt;clear hW hR;go_enter Tryz.func14,Tryz.ntmps14;go_wp2;go_ret;exact⟨rfl,ab.refl _ _⟩
 | some gr =>
  rcases hR with h0 | ⟨fs,Hr,g,h1,-,-,h4⟩
  ·have:=hW.rows.1
   rw[h0]at this;exact absurd this (by simp)
  ·exact Pk b x gr _ T fs Hr g a c w hW h1 h4 hx hT ha hc rfl
set_option maxRecDepth 100000 in
theorem KT:tG:=by
 intro ao cap l a c w hl hls ha1 ha2 hc1 hc2 hc;have HSM:=(show Hid _ from U3 ao cap l w hl hls hc);go_enter Tryz.func5,Tryz.ntmps5;go_wp2_with fail;refine Calls.mono HSM.out ?_;rintro e w1 ⟨⟨r,rfl,hr⟩,hw1⟩;subst hw1
 cases r
 ·go_wp2
  go_ret;exact⟨rfl,Below.refl _ _⟩
 ·obtain⟨hl1,hl2⟩:=hr rfl
  go_wp2_with fail;refine(Lf _).mono ?_;rintro e w0 ⟨rfl,hk0⟩
  have hc0:l.length=0∨∃b off,ao=some ⟨b,off,none⟩/\kB w0 b off l:=by
   rcases hc with h0 | ⟨b,off,he,hcc⟩
   ·exact Or.inl h0
   ·exact Or.inr ⟨b,off,he,hcc.ZE hk0 (by simp)⟩
  have hz0:=hk0.size;go_wp2_with fail;refine(KI ao cap l _ hl1 hl2 hc0).mono ?_;rintro e w2 ⟨b,x,rfl,⟨la,lb,lc,⟨T,o,hW,hT,hRp⟩,-⟩,hk2⟩;have HRp:=(show Hid _ from hRp);clear hRp;go_wp2_with fail;refine(Tq b x T o a c _ hW HRp.out lc hT ⟨ha1,ha2⟩ ⟨hc1,hc2⟩).mono ?_;rintro e w4 ⟨rfl,hk4⟩;go_wp2;go_ret;refine⟨rfl,?_⟩;have hk:ab [x] w1 w4:=((hk0.trans hk2).mono (by simp)).trans hk4;exact⟨hk.os,hk.tape,hk.output,hk.size,fun k hk'=>hk.block k hk' (by simp;omega)⟩
theorem joined_holds:Rows.JoinedSaid:=KR KT
end Go.Proofs.YtnbalopedcgpcaaGreat
