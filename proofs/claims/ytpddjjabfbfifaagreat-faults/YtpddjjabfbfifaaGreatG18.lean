import Derived.Test.YtpddjjabfbfifaaGreatG17
namespace Go.Proofs.YtpddjjabfbfifaaGreat
open Go.RowKit
set_option maxHeartbeats 40000000
def eR(l:List St)(a:Nat)(fin:Pl):List (ByteArray×Pl)->List lV->List lV×oR
 | [],acc=>if acc.length=0 then([],(1,fin)) else(acc,cI)
 | (t,p) :: r,acc =>
  if(t.toList == [63])=true then eR l a fin r (acc++[⟨1,0,p⟩])
  else match lo l t a with
   | none=>([],(2,p))
   | some n=>eR l a fin r (acc++[⟨2,n,p⟩])
theorem If(l:List St)(a:Nat)(fin:Pl)(i:Nat)(ws:List (ByteArray×Pl))(acc:List lV)(hi:i<ws.length) :
  eR l a fin (ws.drop i) acc=if(ws[i].1.toList == [63])=true then eR l a fin (ws.drop (i+1)) (acc++[⟨1,0,ws[i].2⟩])
   else match lo l ws[i].1 a with
    | none=>([],(2,ws[i].2))
    | some n=>eR l a fin (ws.drop (i+1)) (acc++[⟨2,n,ws[i].2⟩]):=by
 rw[List.drop_eq_getElem_cons hi];rfl
theorem Do(l:List St)(a:Nat)(fin:Pl)(i:Nat)(ws:List (ByteArray×Pl))(acc:List lV)(hi:¬i<ws.length):eR l a fin (ws.drop i) acc=if acc.length=0 then([],(1,fin)) else(acc,cI):=by
 rw[List.drop_of_length_le (by omega)];rfl
theorem jo{w wr:World}{F:Nat}(K:ab [] w wr)(h1:w.heap.size<=F)(a0 a1 a2 a3:Value):ab [] w ((((wr.setCell ⟨F,0,none⟩ a0).setCell ⟨F,1,none⟩ a1).setCell ⟨F,2,none⟩ a2).setCell ⟨F,3,none⟩ a3) :=
 (((K.setCell (Or.inr h1) _).setCell (Or.inr h1) _).setCell (Or.inr h1) _).setCell (Or.inr h1) _
theorem Li{w wr:World}{F:Nat}(K:ab [] w wr)(h1:w.heap.size<=F)(a0 a1 a2 a3 a4:Value):ab [] w (((((wr.setCell ⟨F,0,none⟩ a0).setCell ⟨F,1,none⟩ a1).setCell ⟨F,2,none⟩ a2).setCell ⟨F,3,none⟩ a3).setCell ⟨F,4,none⟩ a4) :=
 ((((K.setCell (Or.inr h1) _).setCell (Or.inr h1) _).setCell (Or.inr h1) _).setCell (Or.inr h1) _).setCell (Or.inr h1) _
set_option maxRecDepth 100000 in
theorem nC(rb ro a:Nat)(l:List St)(H:Nat->Hd)(w:World)(hr:ev w rb ro l H)(ha:a<l.length)(ok:jH l) :
  Calls Tryz.prog 139 #[.pointer (some ⟨rb,ro,none⟩),.int .i64 a] w fun e w'=>∃hd:Hd,
   e=.returned (.tuple #[.slice hd.ao (eR l a l[a].fin l[a].proof []).1.length hd.cap,gx (eR l a l[a].fin l[a].proof []).2])/\aA w' hd (fm (eR l a l[a].fin l[a].proof []).1)/\(∀x,hd.blk=some x->w.heap.size<=x)/\ab [] w w':=by
 obtain⟨i0,hi0,hz0,hz1,hz2⟩:=info_parts J3;have hbw:=hr.lt;have hlen:=ok.len;have hpl:=ok.prfs a ha;obtain⟨AO,HAO⟩:∃AO,Hid ((H (11+2*a)).ao=AO):=⟨_,rfl⟩
 obtain⟨W,hW⟩:∃W,W=w.alloc (.cells #[.int .i64 0,.string ⟨#[]⟩,.int .i64 0,.int .i64 0] 165):=⟨_,rfl⟩
 have K:ab [] w W:=by rw[hW];exact(ab.refl [] _).alloc _
 have BF:W.heap[w.heap.size]?=some (.cells aZ 165 (0,0)):=by rw[hW];exact heap_alloc_new _ _
 have HW:=(show Hid _ from hW.symm);clear hW;go_enter Tryz.func139,Tryz.ntmps139
 go_upto_region 1 with fail
 rw[HW.out];go_wp2_with fail;refine(bb rb ro a l H _ (hr.still K) ha).mono ?_;rintro e w1 ⟨rfl,hk1⟩;unfold eG;rw[HAO.out];obtain⟨W2,hW2⟩:∃W2,W2=w1.alloc (.cells #[.int .i64 l[a].kind,.string l[a].label,.slice (H (10+2*a)).ao l[a].symbols.length (H (10+2*a)).cap,.slice AO l[a].proof.length (H (11+2*a)).cap,.string l[a].fin.file,.int .i64 l[a].fin.line,.int .i64 l[a].fin.col,.int .i64 l[a].til] 158):=⟨_,rfl⟩
 have HW2:=(show Hid _ from hW2.symm);have K2:ab [] w W2:=by rw[hW2];exact(K.trans hk1).alloc _
 obtain⟨TB,hTB⟩:∃TB:Array Value,TB=#[.int .i64 l[a].kind,.string l[a].label,.slice (H (10+2*a)).ao l[a].symbols.length (H (10+2*a)).cap,.slice AO l[a].proof.length (H (11+2*a)).cap,.string l[a].fin.file,.int .i64 l[a].fin.line,.int .i64 l[a].fin.col,.int .i64 l[a].til]:=⟨_,rfl⟩
 have BT:W2.heap[w1.heap.size]?=some (.cells TB 158 (0,0)):=by rw[hW2,hTB];exact heap_alloc_new _ _
 have BF2:W2.heap[w.heap.size]?=some (.cells aZ 165 (0,0)):=by rw[hW2];exact((ab.refl [] _).alloc _).get (hk1.get BF (by simp)) (by simp)
 have hs1:w.heap.size<w1.heap.size:=by have:=ae (hk1.get BF (by simp));omega
 have hsT:=ae BT;have HTB:=(show Hid _ from hTB);clear hW2 hTB
 go_upto_region 2 with fail
 rw[HW2.out];clear HW HW2 hk1 BF K;go_wp2
 go_loopg [7,8] l[a].proof.length (fun gk sv iv wr=>∃(i:Nat) (acc:List lV) (hd:Hd),i<=l[a].proof.length/\gk=l[a].proof.length-i/\iv=.int .i64 i/\sv=.slice hd.ao acc.length hd.cap/\acc.length<=i/\Hid (eR l a l[a].fin l[a].proof []=eR l a l[a].fin (l[a].proof.drop i) acc)/\aA wr hd (fm acc)/\(∀x,hd.blk=some x->W2.heap.size<=x) /\
  ab [] W2 wr)
 case atStart=>exact⟨0,[],⟨none,0⟩,by omega,by omega,rfl,rfl,by simp,rfl,World.ownsRow_nil _ _ _ _,by intro x hx;simp[Hd.blk]at hx,ab.refl _ _⟩
 case round =>
  obtain⟨i,acc,hd,hi,hg,rfl,rfl,hal,hR,hO,hN,hK⟩:=hrel;have KW:=K2.trans hK;have hr':=hr.still KW;have B1:=hK.get BF2 (by simp);have B2:=hK.get BT (by simp);have hB1w:=ae B1;have hB2w:=ae B2;obtain⟨z0,z1,z2,z3⟩:=cw B1;have yz:=ak B1;have hOp:=hr'.sts.prfs a l[a] (List.getElem?_eq_getElem ha);have hsW:=K2.size
  by_cases hlt:i<l[a].proof.length
  ·obtain⟨gp,ep,ecap,ecap2,d0,d1,d2,d3⟩:=hOp.word i hlt
   obtain rfl:AO=some ⟨gp,0,none⟩:=HAO.out.symm.trans ep;have t3:wr.cell? ⟨w1.heap.size,3,none⟩=some (.slice (some ⟨gp,0,none⟩) l[a].proof.length (H (11+2*a)).cap):=by rw[aa B2,HTB.out];rfl
   have hgp:gp<wr.heap.size:=hOp.lt (by unfold Hd.blk;rw[ep];rfl);clear ep;have BL:=If l a l[a].fin i l[a].proof acc hlt;have HBL:=(show Hid _ from hR.out.trans BL);clear BL hR hOp;generalize hwd:l[a].proof[i]=wd at *;obtain⟨t,pf,pl,pc⟩:=wd;simp only at d0 d1 d2 d3 HBL;obtain⟨W5,hW5⟩:∃W5,W5=(wr.alloc (.cells #[.string t,.string pf,.int .i64 pl,.int .i64 pc] 229)).alloc (.cells #[.int .i64 1,.int .i64 0,.string pf,.int .i64 pl,.int .i64 pc] 174):=⟨_,rfl⟩
   have K5:ab [] wr W5:=by rw[hW5];exact((ab.refl [] _).alloc _).alloc _
   have B5:W5.heap[wr.heap.size]?=some (.cells #[.string t,.string pf,.int .i64 pl,.int .i64 pc] 229 (0,0)):=by rw[hW5];exact((ab.refl [] _).alloc _).get (heap_alloc_new _ _) (by simp)
   have S5:W5.heap[wr.heap.size+1]?=some (.cells #[.int .i64 1,.int .i64 0,.string pf,.int .i64 pl,.int .i64 pc] 174 (0,0)):=by
    rw[hW5];have:=heap_alloc_new (wr.alloc (.cells #[.string t,.string pf,.int .i64 pl,.int .i64 pc] 229)) (.cells #[.int .i64 1,.int .i64 0,.string pf,.int .i64 pl,.int .i64 pc] 174);simpa using this
   have HW5:=(show Hid _ from hW5.symm);clear hW5
   go_upto_region 8 with fail
   rw[HW5.out];clear HW5 d0 d1 d2 d3 t3 z0 z1 z2 z3 yz;have v0:W5.cell? ⟨wr.heap.size,0,none⟩=some (.string t):=by rw[aa B5];rfl
   have v1:W5.cell? ⟨wr.heap.size,1,none⟩=some (.string pf):=by rw[aa B5];rfl
   have v2:W5.cell? ⟨wr.heap.size,2,none⟩=some (.int .i64 pl):=by rw[aa B5];rfl
   have v3:W5.cell? ⟨wr.heap.size,3,none⟩=some (.int .i64 pc):=by rw[aa B5];rfl
   have u0:W5.cell? ⟨wr.heap.size+1,0,none⟩=some (.int .i64 1):=by rw[aa S5];rfl
   have u1:W5.cell? ⟨wr.heap.size+1,1,none⟩=some (.int .i64 0):=by rw[aa S5];rfl
   have u2:W5.cell? ⟨wr.heap.size+1,2,none⟩=some (.string pf):=by rw[aa S5];rfl
   have u3:W5.cell? ⟨wr.heap.size+1,3,none⟩=some (.int .i64 pl):=by rw[aa S5];rfl
   have u4:W5.cell? ⟨wr.heap.size+1,4,none⟩=some (.int .i64 pc):=by rw[aa S5];rfl
   have yu:=ak S5;have hO5:aA W5 hd (fm acc):=hO.moved (fun x hx=>K5.block x (hO.lt hx) (by simp));have R5:=hr'.still K5;have F5:=K5.get B1 (by simp);obtain⟨z0,z1,z2,z3⟩:=cw F5;have yz:=ak F5;have HK5:Hid (ab [] W2 W5):=hK.trans K5;have hs5:=ae S5
   cases ht:(t.toList == [63])
   ·have ht':(t.toList != [63])=true:=by simp[bne,ht]
    rcases hf:lo l t a with _ | n
    ·have HF:Hid (eR l a l[a].fin l[a].proof []=([],(2,⟨pf,pl,pc⟩))):=by show _=_;rw[HBL.out,ht,hf];simp
     clear HBL
     go_upto_region 11 with (go_at_call 185;refine(fT rb ro a t l H _ (by exact R5) (by omega)).mono ?_;rintro e w6 ⟨rfl,hw6⟩;rw[hw6,hf];simp only[nX])
     go_region
     all_goals go_wp2
     all_goals exact bodyPost_ret (v:=.tuple #[.slice none 0 0,.agg #[.int .i64 2,.string pf,.int .i64 pl,.int .i64 pc]]) (by simp[results,Tryz.results139,go_sem,z0,z1,z2,z3]) rfl ⟨⟨none,0⟩,by rw[HF.out];rfl,by rw[HF.out];exact World.ownsRow_nil _ _ _ _,by intro x hx;simp[Hd.blk]at hx,(jo (K2.trans HK5.out) (Nat.le_refl _) _ _ _ _).drew⟩
    ·have HF:Hid (eR l a l[a].fin l[a].proof []=eR l a l[a].fin (l[a].proof.drop (i+1)) (acc++[⟨2,n,⟨pf,pl,pc⟩⟩])):=by show _=_;rw[HBL.out,ht,hf];simp
     clear HBL;obtain⟨W6,hW6⟩:∃W6,W6=((((W5.setCell ⟨wr.heap.size+1,0,none⟩ (.int .i64 2)).setCell ⟨wr.heap.size+1,1,none⟩ (.int .i64 n)).setCell ⟨wr.heap.size+1,2,none⟩ (.string pf)).setCell ⟨wr.heap.size+1,3,none⟩ (.int .i64 pl)).setCell ⟨wr.heap.size+1,4,none⟩ (.int .i64 pc):=⟨_,rfl⟩
     have k56:ab [wr.heap.size+1] W5 W6:=by rw[hW6];exact((((((ab.refl _ _).setCell (Or.inl (by simp)) _).setCell (Or.inl (by simp)) _).setCell (Or.inl (by simp)) _).setCell (Or.inl (by simp)) _).setCell (Or.inl (by simp)) _)
     have S6:W6.heap[wr.heap.size+1]?=some (.cells #[.int .i64 2,.int .i64 n,.string pf,.int .i64 pl,.int .i64 pc] 174 (0,0)):=by
      rw[hW6,ah (ah (ah (ah (ah S5 _ _) _ _) _ _) _ _)];rfl
     have HK6:Hid (ab [] W2 W6):=by
      show ab [] W2 W6
      rw[hW6];exact Li HK5.out (by have:=hK.size;omega) _ _ _ _ _
     have hO6':aA W6 hd (fm acc):=hO5.moved (fun x hx=>k56.block x (hO5.lt hx) (by simp;rintro rfl;have:=hO.lt hx;omega));have HW6:=(show Hid _ from hW6.symm);clear hW6 k56
     go_upto_region 13 with (go_at_call 185;refine(fT rb ro a t l H _ (by exact R5) (by omega)).mono ?_;rintro e w6 ⟨rfl,hw6⟩;rw[hw6,hf];simp only[nX])
     rw[HW6.out];clear HW6 u0 u1 u2 u3 u4 yu;have u0:W6.cell? ⟨wr.heap.size+1,0,none⟩=some (.int .i64 2):=by rw[aa S6];rfl
     have u1:W6.cell? ⟨wr.heap.size+1,1,none⟩=some (.int .i64 n):=by rw[aa S6];rfl
     have u2:W6.cell? ⟨wr.heap.size+1,2,none⟩=some (.string pf):=by rw[aa S6];rfl
     have u3:W6.cell? ⟨wr.heap.size+1,3,none⟩=some (.int .i64 pl):=by rw[aa S6];rfl
     have u4:W6.cell? ⟨wr.heap.size+1,4,none⟩=some (.int .i64 pc):=by rw[aa S6];rfl
     have hO6:=hO6'.moved (fun x hx=>((ab.refl [] W6).alloc (.cells #[.int .i64 2,.int .i64 n,.string pf,.int .i64 pl,.int .i64 pc] 174)).block x (hO6'.lt hx) (by simp));have K6:Hid (ab [] W2 (W6.alloc (.cells #[.int .i64 2,.int .i64 n,.string pf,.int .i64 pl,.int .i64 pc] 174))):=ab.alloc HK6.out _;clear z0 z1 z2 z3 yz v0 v1 v2 v3;go_wp2_with (at_builtin;refine aM _ rfl (.tmp 47) (.tmp 49) 163 rfl i0 (.agg #[.int .i64 0,.int .i64 0,.string ⟨#[]⟩,.int .i64 0,.int .i64 0]) 48 hd (fm acc) Tryz.underlying163 hi0 hz0 hz1 hz2 rfl (Nat.succ_pos 4) rfl (by exact hO6) ⟨_,0,none⟩ 1 1 (jK ⟨2,n,⟨pf,pl,pc⟩⟩) rfl rfl ?e1 (qJ _) Nat.one_pos ?e3 ?e4 ?_)
     case e1 =>
      intro j u hj;have hk:(W6.alloc (.cells #[.int .i64 2,.int .i64 n,.string pf,.int .i64 pl,.int .i64 pc] 174)).heap[W6.heap.size]?=some (.cells #[.int .i64 2,.int .i64 n,.string pf,.int .i64 pl,.int .i64 pc] 174 (0,0)):=heap_alloc_new _ _;rw[bK,aa hk];simpa [jK] using hj
     case e3=>simp only[fm];unfold maxLen;omega
     case e4=>simp only[fm];omega
     intro g8 cap8 w8 hw8 hgr8 hfresh8;rw[qO acc ⟨2,n,⟨pf,pl,pc⟩⟩]at hw8;have hK8:=(K6.out).grown hgr8 hN
     have hg8:W2.heap.size<=g8:=by
      rcases hfresh8 with e | e
      ·exact hN g8 e
      ·have:=K6.out.size;simp at e this;omega
     have hEl:Hid ((fm acc).n+1=(acc++[(⟨2,n,⟨pf,pl,pc⟩⟩:lV)]).length):=by show _=_;simp[fm]
     rw[hEl.out];clear hgr8 hfresh8 hO6;go_wp2
     go_roundg (l[a].proof.length-(i+1))
     case measure=>omega
     case rel=>exact⟨i+1,acc++[⟨2,n,⟨pf,pl,pc⟩⟩],⟨some ⟨g8,0,none⟩,cap8⟩,by omega,rfl,by go_num,rfl,by simp;omega,HF,hw8,by intro x hx;simp[Hd.blk]at hx;omega,hK8⟩
   ·have ht':(t.toList != [63])=false:=by simp[bne,ht]
    have HF:Hid (eR l a l[a].fin l[a].proof []=eR l a l[a].fin (l[a].proof.drop (i+1)) (acc++[⟨1,0,⟨pf,pl,pc⟩⟩])):=by show _=_;rw[HBL.out,ht];simp
    clear HBL;have hO6:=hO5.moved (fun x hx=>((ab.refl [] W5).alloc (.cells #[.int .i64 1,.int .i64 0,.string pf,.int .i64 pl,.int .i64 pc] 174)).block x (hO5.lt hx) (by simp));have K6:Hid (ab [] W2 (W5.alloc (.cells #[.int .i64 1,.int .i64 0,.string pf,.int .i64 pl,.int .i64 pc] 174))):=ab.alloc HK5.out _;clear z0 z1 z2 z3 yz
    go_upto_region 13 with fail
    clear v0 v1 v2 v3;go_wp2_with (at_builtin;refine aM _ rfl (.tmp 47) (.tmp 49) 163 rfl i0 (.agg #[.int .i64 0,.int .i64 0,.string ⟨#[]⟩,.int .i64 0,.int .i64 0]) 48 hd (fm acc) Tryz.underlying163 hi0 hz0 hz1 hz2 rfl (Nat.succ_pos 4) rfl (by exact hO6) ⟨_,0,none⟩ 1 1 (jK ⟨1,0,⟨pf,pl,pc⟩⟩) rfl rfl ?e1 (qJ _) Nat.one_pos ?e3 ?e4 ?_)
    case e1 =>
     intro j u hj;have hk:(W5.alloc (.cells #[.int .i64 1,.int .i64 0,.string pf,.int .i64 pl,.int .i64 pc] 174)).heap[W5.heap.size]?=some (.cells #[.int .i64 1,.int .i64 0,.string pf,.int .i64 pl,.int .i64 pc] 174 (0,0)):=heap_alloc_new _ _;rw[bK,aa hk];simpa [jK] using hj
    case e3=>simp only[fm];unfold maxLen;omega
    case e4=>simp only[fm];omega
    intro g8 cap8 w8 hw8 hgr8 hfresh8;rw[qO acc ⟨1,0,⟨pf,pl,pc⟩⟩]at hw8;have hK8:=(K6.out).grown hgr8 hN
    have hg8:W2.heap.size<=g8:=by
     rcases hfresh8 with e | e
     ·exact hN g8 e
     ·have:=K6.out.size;simp at e this;omega
    have hEl:Hid ((fm acc).n+1=(acc++[(⟨1,0,⟨pf,pl,pc⟩⟩:lV)]).length):=by show _=_;simp[fm]
    rw[hEl.out];clear hgr8 hfresh8 hO6;go_wp2
    go_roundg (l[a].proof.length-(i+1))
    case measure=>omega
    case rel=>exact⟨i+1,acc++[⟨1,0,⟨pf,pl,pc⟩⟩],⟨some ⟨g8,0,none⟩,cap8⟩,by omega,rfl,by go_num,rfl,by simp;omega,HF,hw8,by intro x hx;simp[Hd.blk]at hx;omega,hK8⟩
  ·have HF:Hid (eR l a l[a].fin l[a].proof []=if acc.length=0 then([],(1,l[a].fin)) else(acc,cI)):=hR.out.trans (Do l a l[a].fin i l[a].proof acc hlt)
   have t3:wr.cell? ⟨w1.heap.size,3,none⟩=some (.slice AO l[a].proof.length (H (11+2*a)).cap):=by rw[aa B2,HTB.out];rfl
   have t4:wr.cell? ⟨w1.heap.size,4,none⟩=some (.string l[a].fin.file):=by rw[aa B2,HTB.out];rfl
   have t5:wr.cell? ⟨w1.heap.size,5,none⟩=some (.int .i64 l[a].fin.line):=by rw[aa B2,HTB.out];rfl
   have t6:wr.cell? ⟨w1.heap.size,6,none⟩=some (.int .i64 l[a].fin.col):=by rw[aa B2,HTB.out];rfl
   clear hR hOp
   by_cases hz:acc.length=0
   ·have hz1:((acc.length:Int)==0)=true:=by simp[hz]
    have HF2:Hid (eR l a l[a].fin l[a].proof []=([],(1,l[a].fin))):=by show _=_;rw[HF.out,if_pos hz]
    clear HF hz
    go_upto_region 15 with fail
    go_region
    all_goals go_wp2
    all_goals exact bodyPost_ret (v:=.tuple #[.slice none 0 0,.agg #[.int .i64 1,.string l[a].fin.file,.int .i64 l[a].fin.line,.int .i64 l[a].fin.col]]) (by simp[results,Tryz.results139,go_sem,z0,z1,z2,z3]) rfl ⟨⟨none,0⟩,by rw[HF2.out];rfl,by rw[HF2.out];exact World.ownsRow_nil _ _ _ _,by intro x hx;simp[Hd.blk]at hx,(jo KW (Nat.le_refl _) _ _ _ _).drew⟩
   ·have hz1:((acc.length:Int)==0)=false:=beq_eq_false_iff_ne.2 (by omega)
    have HF2:Hid (eR l a l[a].fin l[a].proof []=(acc,cI)):=by show _=_;rw[HF.out,if_neg hz]
    clear HF hz;go_wp2
    exact bodyPost_ret (v:=.tuple #[.slice hd.ao acc.length hd.cap,.agg #[.int .i64 0,.string ⟨#[]⟩,.int .i64 0,.int .i64 0]]) (by simp[results,Tryz.results139,go_sem,z0,z1,z2,z3]) rfl
     ⟨hd,by rw[HF2.out];rfl,by rw[HF2.out];exact hO.moved (fun x hx=>(ie (r:=w.heap.size) _ _ _ _).block x (hO.lt hx) (by simp;rintro rfl;have:=hN _ hx;omega)),fun x hx=>Nat.le_trans hsW (hN x hx),jo KW (Nat.le_refl _) _ _ _ _⟩
def pT:List (ByteArray×Pl)->kP->oR×kP
 | [],c=>(cI,c)
 | (t,p) :: r,c=>if((lh t p c).1.1==0)=true then pT r (lh t p c).2 else lh t p c
def C4(f:oR)(ws:List (ByteArray×Pl))(c:kP):oR×kP:=if(f.1==0)=true then pT ws c else(f,c)
theorem Kf(f:oR)(ws:List (ByteArray×Pl))(c:kP)(i:Nat)(hi:i<ws.length)(h:(f.1==0)=true):C4 f (ws.drop i) c=C4 (lh ws[i].1 ws[i].2 c).1 (ws.drop (i+1)) (lh ws[i].1 ws[i].2 c).2:=by
 unfold C4;rw[if_pos h,List.drop_eq_getElem_cons hi];rfl
theorem IX(f:oR)(ws:List (ByteArray×Pl))(c:kP)(i:Nat)(hi:¬i<ws.length)(h:(f.1==0)=true):C4 f (ws.drop i) c=(cI,c):=by
 unfold C4;rw[if_pos h,List.drop_of_length_le (by omega)];rfl
theorem CZ(f:oR)(ws:List (ByteArray×Pl))(c:kP)(h:(f.1==0)=false):C4 f ws c=(f,c):=by
 unfold C4;rw[if_neg (by rw[h];simp)]
theorem wD(l:List St)(a:Nat)(fin:Pl)(ws:List (ByteArray×Pl))(i:Nat)(ns:List Nat):(db l a fin i ws ns).1.1<=i+ws.length/\(db l a fin i ws ns).2.length<=ns.length+ws.length:=by
 induction ws generalizing i ns with
 | nil=>simp[db]
 | cons x r ih =>
  obtain⟨t,p⟩:=x;rw[db]
  split
  ·simp
  ·split
   ·simp
   ·split
    ·simp
    ·next n _ _=>have:=ih (i+1) (ns++[n]);simp at this ⊢;omega
theorem fD.mono{c:kP}{N M:Nat}(h:fD c N)(k:N<=M):fD c M:=⟨Nat.le_trans h.names k,Nat.le_trans h.tagged k,Nat.le_trans h.steps k,by have:=h.digits;omega,h.behind⟩
theorem Aj(t:ByteArray)(p:Pl)(f:Nat):∀(j:Nat) (c:kP) (N:Nat),fD c (N+j)->j<=t.size->fD (gI t p f j c).2 (N+t.size):=by
 induction f with
 | zero=>intro j c N h hj;exact h.mono (by omega)
 | succ f ih =>
  intro j c N h hj;rw[gI]
  split
  ·next hlt =>
   have h2:=h.letter (aF t j).toNat { p with col:=p.col+j }
   split
   ·exact ih (j+1) _ N (by rw[<-Nat.add_assoc];exact h2) (by omega)
   ·exact h2.mono (by omega)
  ·exact h.mono (by omega)
theorem v6{c:kP}{N:Nat}(t:ByteArray)(p:Pl)(h:fD c N):fD (lh t p c).2 (N+t.size):=Aj t p _ 0 c N h (Nat.zero_le _)
def ja(ws:List (ByteArray×Pl)):Nat:=(ws.map (fun x=>x.1.size)).sum
theorem BI(ws:List (ByteArray×Pl))(i:Nat)(hi:i<ws.length):ja (ws.drop i)=ws[i].1.size+ja (ws.drop (i+1)):=by
 have e:=List.drop_eq_getElem_cons hi;simp only[ja];rw[e];rfl
theorem zT(ws:List (ByteArray×Pl))(i:Nat):ja (ws.drop i)<=ja ws:=by
 induction i generalizing ws with
 | zero=>simp
 | succ i ih =>
  cases ws with
  | nil=>simp
  | cons x r=>have:=ih r;simp[ja]at this ⊢;omega
structure vX(s:St):Prop where
 size:ja s.proof<=1000000
 col:∀x∈s.proof,-1000000000<=x.2.col/\x.2.col<=1000000000
def CF(l:List St)(a:Nat)(s:St):oR×kP :=
 C4 (db l a s.fin 1 (s.proof.drop 1) (bE l a)).1.2 (s.proof.drop (db l a s.fin 1 (s.proof.drop 1) (bE l a)).1.1) ⟨(db l a s.fin 1 (s.proof.drop 1) (bE l a)).2,[],[],0,false⟩
def rK(fin:Pl)(R:oR×kP):List lV×oR :=
 if(R.1.1==0)=true then
  (if R.2.digits=0 then(if R.2.steps.length=0 then([],(1,fin)) else(R.2.steps,cI)) else([],(4,fin)))
 else([],R.1)
def kz(l:List St)(a:Nat)(s:St):List lV×oR:=rK s.fin (CF l a s)
def vq(hd:Hd):Nat->Hd
 | 0=>hd
 | _+1=>⟨none,0⟩
theorem IO{w:World}{hd:Hd}{t:Nat}{cs:List Value}{rows:Nat->dK}(o:aA w hd (rows 0))(n:∀i,aA (w.alloc (.cells cs.toArray t)) ⟨none,0⟩ (rows (i+1))):aR (w.alloc (.cells cs.toArray t)) w.heap.size t cs rows (vq hd):=by
 refine⟨heap_alloc_new _ _,?_,?_,?_⟩
 ·intro i
  cases i with
  | zero=>exact o.moved (fun x hx=>((ab.refl [] w).alloc _).block x (o.lt hx) (by simp))
  | succ i=>exact n i
 ·intro i j hne
  cases i with
  | zero =>
   cases j with
   | zero=>exact absurd rfl hne
   | succ j =>
    have e2:(vq hd (j+1)).blk=none:=rfl;rw[e2,show vq hd 0=hd from rfl]
    cases h:hd.blk with
    | none=>exact Or.inl rfl
    | some x=>right;simp
  | succ i=>left;rfl
 ·intro i
  cases i with
  | zero=>intro e;have:=o.lt e;omega
  | succ i=>intro e;simp[vq,Hd.blk]at e
theorem IY{hd:Hd}{x:Nat}(h:fk (vq hd) x):hd.blk=some x:=by
 obtain⟨i,hi⟩:=h
 cases i with
 | zero=>exact hi
 | succ i=>simp[vq,Hd.blk]at hi
def wy(p:Pl):Prop:=(-1000000000<=p.col/\p.col<=1000000000)/\Gs p
structure Gd(d:Db)(m:Nat):Prop where
 bnd:lW d m
 now:ja d.proof<=m/\∀x∈d.proof,wy x.2
 sts:∀s∈d.sts,0<s.symbols.length/\s.symbols.length<=m/\s.proof.length<=m/\ja s.proof<=m/\(∀x∈s.proof,wy x.2)/\wy s.fin
theorem Bv(l:List (ByteArray×Pl))(x:ByteArray×Pl):ja (l++[x])=ja l+x.1.size:=by
 simp[ja]
theorem AA{l:List St}{b:Nat}{s:St}(h:s∈jk l b):∃s'∈l,s.symbols=s'.symbols/\s.proof=s'.proof/\s.fin=s'.fin:=by
 unfold jk eJ at h;rw[List.mem_mapIdx]at h;obtain⟨i,hi,rfl⟩:=h;refine⟨l[i],List.getElem_mem hi,?_⟩
 split
 ·unfold oI;split <;> exact⟨rfl,rfl,rfl⟩
 ·exact⟨rfl,rfl,rfl⟩
theorem Gd.take{d:Db}{m:Nat}(h:Gd d m)(x:ByteArray)(p:Pl)(n:Nat)(hx:x.size<=n)(h1:1<=n)(hc:wy p):Gd (aV d x p).2 (m+n):=by
 have hb:=(h.bnd.take x p).mono (m':=m+n) (by omega);have hp:=h.bnd.proof;have hsy:=h.bnd.constants;refine⟨hb,?_,?_⟩
 ·rcases Ay d x p with e | e | e
  ·rw[e];exact⟨by have:=h.now.1;omega,h.now.2⟩
  ·rw[e];exact⟨by simp[ja],by simp⟩
  ·rw[e]
   refine⟨by rw[Bv];have:=h.now.1;simp only;omega,fun y hy=>?_⟩
   rcases List.mem_append.1 hy with hy | hy
   ·exact h.now.2 y hy
   ·rw[List.mem_singleton.1 hy];exact hc
 ·rcases yU d x p with e | ⟨y,_,e⟩ | ⟨e,hpos⟩
  ·rw[e]
   intro s hs;obtain⟨a1,a2,a3,a4,a5⟩:=h.sts s hs;exact⟨a1,by omega,by omega,by omega,a5⟩
  ·rw[e]
   intro s hs;obtain⟨s',hs',e1,e2,e3⟩:=AA hs;obtain⟨a1,a2,a3,a4,a5⟩:=h.sts s' hs';rw[e1,e2,e3];exact⟨a1,by omega,by omega,by omega,a5⟩
  ·rw[e]
   intro s hs
   rcases List.mem_append.1 hs with hs | hs
   ·obtain⟨a1,a2,a3,a4,a5⟩:=h.sts s hs
    exact⟨a1,by omega,by omega,by omega,a5⟩
   ·rw[List.mem_singleton.1 hs]
    exact⟨hpos,by simp only;omega,by simp only;omega,by have:=h.now.1;simp only;omega,h.now.2,hc⟩
theorem Gd.empty:Gd eE 0:=⟨lW.empty,by simp[eE,ja],by simp[eE]⟩
theorem tX(d:ByteArray)(k:Nat)(hk:k<=d.size):(bi d k).1.text.size<=(bi d k).2-k/\(bi d k).1.pos<=d.size:=by
 have a:=wL d k hk;have b:=pm d (skip d k) a.2;unfold bi;simp only
 split
 ·exact⟨by simp[ByteArray.size],b.2⟩
 ·split
  ·exact⟨by simp[ByteArray.size],by simp only;omega⟩
  ·refine⟨?_,by simp only;omega⟩
   simp only[ByteArray.size_extract];omega
theorem ud(d:ByteArray)(k:Nat)(hk:k<=d.size):(aQ d k).1.pos<=d.size:=by
 unfold aQ;generalize d.size-k+1=f
 induction f generalizing k with
 | zero=>simp[bQ,hk]
 | succ f ih =>
  have rp:=(tX d k hk).2;have rl:=fq d k hk;rw[bQ]
  split
  ·split
   ·exact rp
   ·exact ih (bi d k).2 rl.2.1
  ·split
   ·exact rp
   ·exact rp
theorem BS(d:ByteArray)(k:Nat)(hk:k<=d.size):(aG (av d k).1=true->(av d k).1.text.size<=(av d k).2-k)/\(av d k).1.pos<=d.size:=by
 unfold av;generalize d.size-k+1=f
 induction f generalizing k with
 | zero=>exact⟨fun h=>by simp[dg,aG]at h,by simp[dg,hk]⟩
 | succ f ih =>
  have rp:=tX d k hk;have rl:=fq d k hk;rw[dg]
  split
  ·have cl:=gZ d (bi d k).2 rl.2.1
   have cp:=ud d (bi d k).2 rl.2.1
   split
   ·have:=ih _ cl.2
    exact⟨fun h=>by have:=this.1 h;omega,this.2⟩
   ·next hc=>exact⟨fun h=>absurd h hc,cp⟩
  ·exact⟨fun _=>rp.1,rp.2⟩
theorem FF(n s:ByteArray)(p:Nat)(hp:p<=1024):wy (jB n s p):=by
 have h1:=xL s p;have h2:=xc s p;unfold wy Gs jB;simp only;omega
def IF(fs:Fs)(bg:List Bool)(m:Nat)(r:Gi):Prop :=
 r.2.1.length=4/\dy fs r.2.1<=dy fs bg/\∃m',Gd r.2.2 m'/\m'+dy fs r.2.1<=m+dy fs bg
theorem DZ(fs:Fs)(hsz:∀j,j<fs.length->(aj fs j).size<=1024)(x:Nat):(aj fs x).size<=1024:=by
 rcases Nat.lt_or_ge x fs.length with h | h
 ·exact hsz x h
 ·have:(aj fs x).size=0:=by unfold aj;rw[List.getD_eq_getElem?_getD,List.getElem?_eq_none h];rfl
  omega
theorem EU(fs:Fs)(hsz:∀j,j<fs.length->(aj fs j).size<=1024)(f:Nat)(IH:∀j bg d m,bg.length=4->Gd d m->IF fs bg m (bZ fs f j bg d))(x k:Nat)(bg:List Bool)(d:Db)(m:Nat)(hk:k<=(aj fs x).size)(hl:bg.length=4)(hB:Gd d m)(hw:aG (av (aj fs x) k).1=true) :
  IF fs bg (m+((av (aj fs x) k).2-k)) (eW fs f x k bg d).1/\(av (aj fs x) k).2<=(eW fs f x k bg d).2/\(eW fs f x k bg d).2<=(aj fs x).size:=by
 have nl:=eM (aj fs x) k hk;have nl2:=nl.2.2 hw;have nw:=BS (aj fs x) k hk;have h1024:=DZ fs hsz x;unfold eW iG
 split
 ·unfold lC
  split
  ·exact⟨⟨hl,Nat.le_refl _,m,hB,by simp only;omega⟩,Nat.le_refl _,nl.2.1⟩
  ·next j z' he =>
   have h2:=IH j bg d m hl hB;refine⟨⟨h2.1,h2.2.1,?_⟩,?_⟩
   ·obtain⟨m',q1,q2⟩:=h2.2.2;exact⟨m',q1,by simp only;omega⟩
   ·unfold pq at he
    have l1:=eM (aj fs x) (av (aj fs x) k).2 nl.2.1;have l2:=eM (aj fs x) (av (aj fs x) (av (aj fs x) k).2).2 l1.2.1
    repeat' split at he
    all_goals first | (cases he;done) | skip
    injection he with he
    injection he with he1 he2
    subst he2;omega
 ·refine⟨⟨hl,Nat.le_refl _,m+((av (aj fs x) k).2-k),hB.take _ _ _ (nw.1 hw) (by omega) (FF _ _ _ (by omega)),by simp only;omega⟩,Nat.le_refl _,nl.2.1⟩
theorem Jo(fs:Fs)(hsz:∀j,j<fs.length->(aj fs j).size<=1024)(f:Nat):(∀x k bg d m,k<=(aj fs x).size->bg.length=4->Gd d m->(aX fs f x k bg d).2.1.length=4/\dy fs (aX fs f x k bg d).2.1<=dy fs bg/\∃m',Gd (aX fs f x k bg d).2.2 m'/\m'+dy fs (aX fs f x k bg d).2.1<=m+((aj fs x).size-k)+dy fs bg) /\
  (∀j bg d m,bg.length=4->Gd d m->IF fs bg m (bZ fs f j bg d)):=by
 have second:∀f,(∀x k bg d m,k<=(aj fs x).size->bg.length=4->Gd d m->(aX fs f x k bg d).2.1.length=4/\dy fs (aX fs f x k bg d).2.1<=dy fs bg/\∃m',Gd (aX fs f x k bg d).2.2 m'/\m'+dy fs (aX fs f x k bg d).2.1<=m+((aj fs x).size-k)+dy fs bg) ->
   (∀j bg d m,bg.length=4->Gd d m->IF fs bg m (bZ fs f j bg d)):=by
  intro f h j bg d m hl hB;unfold bZ
  split
  ·exact⟨hl,Nat.le_refl _,m,hB,Nat.le_refl _⟩
  ·next hb =>
   have hb':bg.getD j true=false:=by simpa using hb
   have hm:=uI fs bg j hl hb';have:=h j 0 (bg.set j true) d m (Nat.zero_le _) (by simpa using hl) hB;refine⟨this.1,by omega,?_⟩;obtain⟨m',q1,q2⟩:=this.2.2;exact⟨m',q1,by omega⟩
 induction f with
 | zero =>
  have h0:∀x k bg d m,k<=(aj fs x).size->bg.length=4->Gd d m->(aX fs 0 x k bg d).2.1.length=4/\dy fs (aX fs 0 x k bg d).2.1<=dy fs bg/\∃m',Gd (aX fs 0 x k bg d).2.2 m'/\m'+dy fs (aX fs 0 x k bg d).2.1<=m+((aj fs x).size-k)+dy fs bg:=by
   intro x k bg d m hk hl hB;exact⟨hl,Nat.le_refl _,m,hB,by simp only[aX];omega⟩
  exact⟨h0,second 0 h0⟩
 | succ f ih =>
  have h1:∀x k bg d m,k<=(aj fs x).size->bg.length=4->Gd d m->(aX fs (f+1) x k bg d).2.1.length=4/\dy fs (aX fs (f+1) x k bg d).2.1<=dy fs bg/\∃m',Gd (aX fs (f+1) x k bg d).2.2 m'/\m'+dy fs (aX fs (f+1) x k bg d).2.1<=m+((aj fs x).size-k)+dy fs bg:=by
   intro x k bg d m hk hl hB
   cases hw:aG (av (aj fs x) k).1 with
   | true =>
    have nl:=eM (aj fs x) k hk;have st:=EU fs hsz f ih.2 x k bg d m hk hl hB hw;obtain⟨⟨s1,s2,m1,s3,s4⟩,s5,s6⟩:=st
    cases h2:((eW fs f x k bg d).1.1.1==0) with
    | true =>
     rw[wl fs f x k bg d hw h2];obtain⟨r1,r2,m2,r3,r4⟩:=ih.1 x (eW fs f x k bg d).2 (eW fs f x k bg d).1.2.1 (eW fs f x k bg d).1.2.2 m1 s6 s1 s3;exact⟨r1,by omega,m2,r3,by omega⟩
    | false =>
     rw[mO fs f x k bg d hw h2];exact⟨s1,s2,m1,s3,by omega⟩
   | false =>
    by_cases h2:(av (aj fs x) k).1.fin=true/\jb d=false
    ·rw[xf fs f x k bg d hw h2.1 h2.2];exact⟨hl,Nat.le_refl _,m,hB,by simp only;omega⟩
    ·rw[ut fs f x k bg d hw h2];exact⟨hl,Nat.le_refl _,m,hB,by simp only;omega⟩
  exact⟨h1,second (f+1) h1⟩
def Lk(l:List St):Prop:=∀s∈l,Gs s.fin/\∀x∈s.proof,Gs x.2
structure LF(l:List St):Prop where
 ok:jH l
 prf:∀i (hi:i<l.length),vX l[i]
 lns:Lk l
theorem G3(fs:Fs)(hsz:∀j,j<fs.length->(aj fs j).size<=1024)(k:Nat):LF (cN fs k).2.2.sts:=by
 obtain⟨_,_,m,hG,hm⟩:=(Jo fs hsz 5000).2 k CB eE 0 rfl Gd.empty;have h4:=xG fs hsz CB;have hm':m<=4104:=by omega
 have hl:=hG.bnd.sts;unfold cN;refine⟨⟨by omega,fun i hi=>?_,fun i hi=>?_,fun i hi=>?_⟩,fun i hi=>⟨?_,?_⟩,?_⟩
 ·exact(hG.sts _ (List.getElem_mem hi)).1
 ·have:=(hG.sts _ (List.getElem_mem hi)).2.1;omega
 ·have:=(hG.sts _ (List.getElem_mem hi)).2.2.1;omega
 ·have:=(hG.sts _ (List.getElem_mem hi)).2.2.2.1;omega
 ·exact fun x hx=>((hG.sts _ (List.getElem_mem hi)).2.2.2.2.1 x hx).1
 ·exact fun s hs=>⟨(hG.sts s hs).2.2.2.2.2.2,fun x hx=>((hG.sts s hs).2.2.2.2.1 x hx).2⟩
end Go.Proofs.YtpddjjabfbfifaaGreat
