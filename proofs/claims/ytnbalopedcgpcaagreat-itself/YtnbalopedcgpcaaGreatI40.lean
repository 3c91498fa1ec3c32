import Derived.Test.YtnbalopedcgpcaaGreatI10
import Derived.Test.YtnbalopedcgpcaaGreatI39
namespace Go.Proofs.YtnbalopedcgpcaaGreat
open Go.RowKit
set_option maxHeartbeats 0
set_option maxRecDepth 100000 in
theorem Ru(b x:Nat)(T:ByteArray)(o:Option Nat)(a c d:Int)(w:World)(hW:aP w b x T o)(hR:aZ T=[]∨iR w x (b+1) 0 T)(hx:x≠b)(hT:dE T)(ha:-9223372036854775808<=a/\a<=9223372036854775807)(hc:-9223372036854775808<=c/\c<=9223372036854775807)(hd:-9223372036854775808<=d/\d<=9223372036854775807) :
  Calls Tryz.prog 13 #[.pointer (some ⟨b,0,none⟩),.int .i64 a,.int .i64 c,.int .i64 d] w fun e w'=>e=.returned (.bool true)/\aa [x] w w':=by
 cases o with
 | none =>
  obtain⟨-,-,c2⟩:=hW.cells;rw[show ge none (aZ T).length=.slice none 0 0 from rfl]at c2;have hbw:=hW.lt;clear hW hR;go_enter Tryz.func13,Tryz.ntmps13;go_wp2;go_ret;exact⟨rfl,aa.refl _ _⟩
 | some gr =>
  rcases hR with h0 | ⟨fs,Hr,g,h1,-,-,h4⟩
  ·have:=hW.rows.1
   rw[h0]at this;exact absurd this (by simp)
  ·exact NY b x gr _ T fs Hr g a c d w hW h1 h4 hx hT ha hc hd rfl
set_option maxRecDepth 100000 in
theorem IU:sj:=by
 intro ao cap l a c d w hl hls ha1 ha2 hc1 hc2 hd1 hd2 hc;have HSM:=(show Hid _ from Ry ao cap l w hl hls hc);go_enter Tryz.func4,Tryz.ntmps4;go_wp2_with fail;refine Calls.mono HSM.out ?_;rintro e w1 ⟨⟨r,rfl,hr⟩,hw1⟩;subst hw1
 cases r
 ·go_wp2
  go_ret;exact⟨rfl,Below.refl _ _⟩
 ·obtain⟨hl1,hl2⟩:=hr rfl
  go_wp2_with fail;refine(I5 _).mono ?_;rintro e w0 ⟨rfl,hk0⟩
  have hc0:l.length=0∨∃b off,ao=some ⟨b,off,none⟩/\jZ w0 b off l:=by
   rcases hc with h0 | ⟨b,off,he,hcc⟩
   ·exact Or.inl h0
   ·exact Or.inr ⟨b,off,he,hcc.Z0 hk0 (by simp)⟩
  have hz0:=hk0.size;go_wp2_with fail;refine(IK ao cap l _ hl1 hl2 hc0).mono ?_;rintro e w2 ⟨b,x,rfl,⟨la,lb,lc,⟨T,o,hW,hT,hRp⟩,-⟩,hk2⟩;have HRp:=(show Hid _ from hRp);clear hRp;go_wp2_with fail;refine(Ru b x T o a c d _ hW HRp.out lc hT ⟨ha1,ha2⟩ ⟨hc1,hc2⟩ ⟨hd1,hd2⟩).mono ?_;rintro e w4 ⟨rfl,hk4⟩;go_wp2;go_ret;refine⟨rfl,?_⟩;have hk:aa [x] w1 w4:=((hk0.trans hk2).mono (by simp)).trans hk4;exact⟨hk.os,hk.tape,hk.output,hk.size,fun k hk'=>hk.block k hk' (by simp;omega)⟩
theorem itself_holds:Rows.ItselfSaid:=IT IU
end Go.Proofs.YtnbalopedcgpcaaGreat
