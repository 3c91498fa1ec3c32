import Derived.Test.YtpddjjabfbfifaaGreatG09
import Derived.Test.YtpddjjabfbfifaaGreatG37
namespace Go.Proofs.YtpddjjabfbfifaaGreat
open Go.RowKit
set_option maxHeartbeats 40000000
section
variable (rec:Nat->List Bool->List Tk->List Tk×List Bool) (fs:Fs)
theorem Ct(t:Tk)(r:List Tk)(sn:List Bool)(out:List Tk)(h:((t.rule==0)&&(t.s.toList == []))=true):b9 rec fs (t :: r) sn out=((if cK out=true then out else out++[oL t 7]),sn):=by
 rw[b9.eq_def];exact if_pos h
theorem tu(t:Tk)(r:List Tk)(sn:List Bool)(out:List Tk)(h:((t.rule==0)&&(t.s.toList == []))=false)(h2:(t.s.toList == [36,91])=false):b9 rec fs (t :: r) sn out=b9 rec fs r sn (out++[t]):=by
 rw[b9.eq_def];simp only;rw[if_neg (by rw[h];simp),if_pos h2]
theorem FE(t:Tk)(r:List Tk)(sn:List Bool)(out:List Tk)(h:((t.rule==0)&&(t.s.toList == []))=false)(h2:(t.s.toList == [36,91])=true)(h3:cK out=false):b9 rec fs (t :: r) sn out=(out++[oL t 4],sn):=by
 rw[b9.eq_def];simp only;rw[if_neg (by rw[h];simp),if_neg (by rw[h2];simp),if_pos h3]
theorem C0(t a:Tk)(sn:List Bool)(out:List Tk)(h:((t.rule==0)&&(t.s.toList == []))=false)(h2:(t.s.toList == [36,91])=true)(h3:cK out=true):b9 rec fs [t,a] sn out=(out++[oL a (cN fs a.s a.rule)],sn):=by
 rw[b9.eq_def];simp only;rw[if_neg (by rw[h];simp),if_neg (by rw[h2];simp),if_neg (by rw[h3];simp)]
theorem CI(t a b:Tk)(r:List Tk)(sn:List Bool)(out:List Tk)(h:((t.rule==0)&&(t.s.toList == []))=false)(h2:(t.s.toList == [36,91])=true)(h3:cK out=true):b9 rec fs (t :: a :: b :: r) sn out =
  if(cN fs a.s a.rule==0)=false then(out++[oL a (cN fs a.s a.rule)],sn)
  else if(dm b.s b.rule==0)=false then(out++[oL b (dm b.s b.rule)],sn)
  else if sn.getD (bu fs a.s).toNat true=true then b9 rec fs r sn out
  else if dJ (rec (bu fs a.s).toNat sn out).1=true then rec (bu fs a.s).toNat sn out
  else b9 rec fs r (rec (bu fs a.s).toNat sn out).2 (rec (bu fs a.s).toNat sn out).1:=by
 rw[b9.eq_def];simp only;rw[if_neg (by rw[h];simp),if_neg (by rw[h2];simp),if_neg (by rw[h3];simp)]
theorem xt(hrec:∀j sn out,∃V,(rec j sn out).1=out++V)(n:Nat):∀L,L.length<=n->∀sn out,∃V,(b9 rec fs L sn out).1=out++V:=by
 induction n with
 | zero =>
  intro L hL sn out;have:L=[]:=List.eq_nil_of_length_eq_zero (by omega);subst this;exact⟨[],by rw[b9.eq_def];simp⟩
 | succ n ih =>
  intro L hL sn out
  cases L with
  | nil=>exact⟨[],by rw[b9.eq_def];simp⟩
  | cons t r =>
   simp only[List.length_cons]at hL
   cases h:((t.rule==0)&&(t.s.toList == []))
   ·cases h2:(t.s.toList == [36,91])
    ·rw[tu rec fs t r sn out h h2]
     obtain⟨V,hV⟩:=ih r (by omega) sn (out++[t]);exact⟨t :: V,by rw[hV];simp⟩
    ·cases h3:cK out
     ·rw[FE rec fs t r sn out h h2 h3];exact⟨_,rfl⟩
     ·match r,hL with
      | [],_ =>
       refine⟨[],?_⟩;rw[b9.eq_def];simp only;rw[if_neg (by rw[h];simp),if_neg (by rw[h2];simp),if_neg (by rw[h3];simp)];simp
      | [a],_=>rw[C0 rec fs t a sn out h h2 h3];exact⟨_,rfl⟩
      | a :: b :: r',hL =>
       simp only[List.length_cons]at hL;rw[CI rec fs t a b r' sn out h h2 h3]
       split
       ·exact⟨_,rfl⟩
       ·split
        ·exact⟨_,rfl⟩
        ·split
         ·exact ih r' (by omega) sn out
         ·obtain⟨V,hV⟩:=hrec (bu fs a.s).toNat sn out
          split
          ·exact⟨V,hV⟩
          ·obtain⟨V2,hV2⟩:=ih r' (by omega) (rec (bu fs a.s).toNat sn out).2 (rec (bu fs a.s).toNat sn out).1
           exact⟨V++V2,by rw[hV2,hV];simp⟩
   ·rw[Ct rec fs t r sn out h]
    simp only
    split
    ·exact⟨[],by simp⟩
    ·exact⟨_,rfl⟩
end
theorem rm(fs:Fs)(n:Nat):∀j sn out,∃V,(dx fs n j sn out).1=out++V:=by
 induction n with
 | zero=>intro j sn out;exact⟨[],by simp[dx]⟩
 | succ n ih=>intro j sn out;rw[dx];exact xt (dx fs n) fs ih _ _ (Nat.le_refl _) _ _
def Jm(L:List Tk):Prop:=∀t∈L,t.rule=0
def JW(t:Tk):Pl:=⟨t.file,t.line,t.col⟩
structure Lb(fs:Fs)(bg sn:List Bool):Prop where
 b:bg.length=4
 s:sn.length=fs.length
 e:∀j,j<fs.length->bg.getD j true=sn.getD j true
theorem Lb.set{fs:Fs}{bg sn:List Bool}(h:Lb fs bg sn)(hfl:fs.length<=4)(k:Nat)(hk:k<fs.length):Lb fs (bg.set k true) (sn.set k true):=by
 refine⟨by rw[List.length_set];exact h.b,by rw[List.length_set];exact h.s,fun j hj=>?_⟩;have:=h.b;have:=h.s;rw[List.getD_eq_getElem?_getD,List.getD_eq_getElem?_getD,List.getElem?_set,List.getElem?_set]
 by_cases e:k=j
 ·rw[if_pos e,if_pos e,if_pos (by omega),if_pos (by omega)]
 ·rw[if_neg e,if_neg e]
  have:=h.e j hj;rw[List.getD_eq_getElem?_getD,List.getD_eq_getElem?_getD]at this;exact this
inductive RelR (fs:Fs) (N:Nat) (res:GY) (R:List Tk×List Bool):Prop
 | good:res.1=cJ->si R.1 res.2.2->Jm R.1->Lb fs res.2.1 R.2->R.1.length+1025*aO R.2<=N->RelR fs N res R
 | ends (W:List Tk) (u:Tk) (d:Db):R.1=W++[u]->(u.rule==0)=false->si W d->Jm W->res.1=(u.rule,JW u)->RelR fs N res R
 | rule (W:List Tk) (t:Tk) (V:List Tk) (d:Db) (r:Int):R.1=W++t :: V->t.rule=0->si W d->W.length+1<=N->a9 (W++[t]) (as (W++[t])) W.length=r->(r==0)=false->res.1=(r,JW t)->RelR fs N res R
theorem vU{L:List Tk}(h:Jm L):dJ L=false:=by
 unfold dJ
 cases e:L.getLast? with
 | none=>rfl
 | some t =>
  have:=h t (List.mem_of_getLast? e);simp[this]
theorem qE(d:ByteArray)(k:Nat)(hk:k<=d.size):(aG (av d k).1=true->((av d k).1.text.toList == [])=false/\(av d k).1.rule=0)/\(aG (av d k).1=false->(av d k).1.text=⟨#[]⟩/\((av d k).1.fin=true->(av d k).1.rule=0)):=by
 have com:∀f k,k<=d.size->aG (bQ d f k).1=false->(bQ d f k).1.text=⟨#[]⟩/\((bQ d f k).1.fin=true->(bQ d f k).1.rule=0):=by
  intro f
  induction f with
  | zero=>intro k _ _;exact⟨rfl,fun h=>by cases h⟩
  | succ f ih =>
   intro k hk h;have hl:=fw d k hk;rw[bQ]at h ⊢
   split
   ·next h1 =>
    rw[if_pos h1]at h
    split
    ·exact⟨rfl,fun h=>by cases h⟩
    ·next h2 =>
     rw[if_neg h2]at h;exact ih _ hl.2.1 h
   ·next h1 =>
    rw[if_neg h1]at h
    split
    ·exact⟨rfl,fun h=>by cases h⟩
    ·next h2 =>
     rw[if_neg h2]at h;exact(pP d k hk).2 h
 unfold av
 suffices hs:∀f k,k<=d.size->(aG (dg d f k).1=true->((dg d f k).1.text.toList == [])=false/\(dg d f k).1.rule=0)/\(aG (dg d f k).1=false->(dg d f k).1.text=⟨#[]⟩/\((dg d f k).1.fin=true->(dg d f k).1.rule=0)) from hs _ _ hk
 clear hk k;intro f
 induction f with
 | zero=>intro k hk;exact⟨fun h=>by simp[dg,aG]at h,fun _=>⟨rfl,fun _=>rfl⟩⟩
 | succ f ih =>
  intro k hk;have hl:=fw d k hk;have hc:=gU d (bi d k).2 hl.2.1;rw[dg]
  split
  ·split
   ·exact ih _ hc.2
   ·next h2 =>
    refine⟨fun h=>absurd h h2,fun h=>?_⟩;exact com _ _ hl.2.1 h
  ·exact pP d k hk
theorem EI(fs:Fs)(s:ByteArray)(r:Int)(h:(r==0)=false):cN fs s r=r:=by unfold cN;exact if_pos h
theorem Eh(fs:Fs)(s:ByteArray)(r:Int)(h:r=0)(hs:s=⟨#[]⟩):cN fs s r=7:=by
 subst h hs;unfold cN;rw[if_neg (by simp),if_pos mK]
theorem Bo(fs:Fs)(s:ByteArray)(r:Int)(h:r=0)(hs:(s.toList == [])=false):cN fs s r=if dw s=true then 5 else if bu fs s<0 then 6 else 0:=by
 subst h;unfold cN;rw[if_neg (by simp),if_neg (by rw[hs];simp),ia]
theorem AM(s:ByteArray)(r:Int)(h:(r==0)=false):dm s r=r:=by unfold dm;exact if_pos h
theorem Bz(s:ByteArray)(r:Int)(h:r=0)(hs:s=⟨#[]⟩):dm s r=7:=by
 subst h hs;unfold dm;rw[if_neg (by simp),if_pos mK]
theorem zs(s:ByteArray)(r:Int)(h:r=0)(hs:(s.toList == [])=false):dm s r=if(s.toList == [36,93])=false then 5 else 0:=by
 subst h;unfold dm;rw[if_neg (by simp),if_neg (by rw[hs];simp)]
theorem Gw(fs:Fs)(hfl:fs.length<=4)(hsz:∀j,j<fs.length->(aj fs j).size<=1024)(f:Nat):∀n x k bg sn d out N,x<fs.length->k<=(aj fs x).size->Lb fs bg sn->aO sn<=n ->
  ((aj fs x).size-k+1)+1025*aO sn<=f->si out d->Jm out->out.length+((aj fs x).size-k+1)+1025*aO sn<=N->N<=100000 ->
  RelR fs N (aX fs f x k bg d) (b9 (dx fs n) fs (kt (aC fs x) (aj fs x) k) sn out):=by
 induction f with
 | zero=>intro n x k bg sn d out N _ _ _ _ h;omega
 | succ f ih =>
  intro n x k bg sn d out N hx hk hS hn hf hG hA hN hN2;have hl:=eK (aj fs x) k hk;obtain⟨t1,t2⟩:=qE (aj fs x) k hk;have hop:=hG.open
  cases hw:aG (av (aj fs x) k).1
  ·-- the file ends,or a word's stead is taken
   obtain⟨x1,x2⟩:=t2 hw;rw[iW _ _ k hw]
   cases hfn:(av (aj fs x) k).1.fin
   ·have hr:((av (aj fs x) k).1.rule==0)=false:=jb hw hfn
    have e1:((ka (aC fs x) (aj fs x) (av (aj fs x) k).1).rule==0&&((ka (aC fs x) (aj fs x) (av (aj fs x) k).1).s.toList == []))=false:=by simp only[ka];rw[hr];rfl
    have e2:((ka (aC fs x) (aj fs x) (av (aj fs x) k).1).s.toList == [36,91])=false:=by simp only[ka];rw[x1];decide +kernel
    rw[tu _ _ _ _ _ _ e1 e2,tX fs f x k bg d hw (by rw[hfn];simp)];refine RelR.ends out _ d (by rw[b9.eq_def]) hr hG hA ?_;simp[gK,hfn,ka,JW,jt]
   ·have e1:((ka (aC fs x) (aj fs x) (av (aj fs x) k).1).rule==0&&((ka (aC fs x) (aj fs x) (av (aj fs x) k).1).s.toList == []))=true:=by simp only[ka];rw[x1,x2 hfn,mK];rfl
    rw[Ct _ _ _ _ _ _ e1]
    cases hb:cK out
    ·rw[hb]at hop
     rw[tX fs f x k bg d hw (by rw[hop];simp)];refine RelR.ends out (oL (ka (aC fs x) (aj fs x) (av (aj fs x) k).1) 7) d (by simp) rfl hG hA ?_;simp[gK,hfn,ka,JW,jt,oL]
    ·rw[hb]at hop
     rw[xE fs f x k bg d hw hfn hop];exact RelR.good rfl (by simp only[if_true];exact hG) (by simp only[if_true];exact hA) hS (by simp only[if_true];omega)
  ·have hl2:=hl.2.2 hw
   obtain⟨x1,x2⟩:=t1 hw;rw[i6 _ _ k hk hw];have e1:((ka (aC fs x) (aj fs x) (av (aj fs x) k).1).rule==0&&((ka (aC fs x) (aj fs x) (av (aj fs x) k).1).s.toList == []))=false:=by simp only[ka];rw[x1];simp
   cases hi:((av (aj fs x) k).1.text.toList == [36,91])
   ·-- a word is taken
    rw[tu _ _ _ _ _ _ e1 (by exact hi)]
    have es:fa fs f x k bg d=((if((aV d (av (aj fs x) k).1.text (jt (aC fs x) (aj fs x) (av (aj fs x) k).1.pos)).1==0)=true then cJ else((aV d (av (aj fs x) k).1.text (jt (aC fs x) (aj fs x) (av (aj fs x) k).1.pos)).1,jt (aC fs x) (aj fs x) (av (aj fs x) k).1.pos),bg,(aV d (av (aj fs x) k).1.text (jt (aC fs x) (aj fs x) (av (aj fs x) k).1.pos)).2),(av (aj fs x) k).2):=by
     unfold fa iI;rw[hi];simp
    obtain⟨g1,g2⟩:=hG.step (t:=ka (aC fs x) (aj fs x) (av (aj fs x) k).1) (by omega) x1 (jt (aC fs x) (aj fs x) (av (aj fs x) k).1.pos);have e3:(ka (aC fs x) (aj fs x) (av (aj fs x) k).1).s=(av (aj fs x) k).1.text:=rfl;rw[e3]at g1 g2
    cases h2:((aV d (av (aj fs x) k).1.text (jt (aC fs x) (aj fs x) (av (aj fs x) k).1.pos)).1==0)
    ·rw[mQ fs f x k bg d hw (by rw[es,h2];simpa using h2),es,h2]
     obtain⟨V,hV⟩:=xt (dx fs n) fs (rm fs n) _ _ (Nat.le_refl _) sn (out++[ka (aC fs x) (aj fs x) (av (aj fs x) k).1]);exact RelR.rule out (ka (aC fs x) (aj fs x) (av (aj fs x) k).1) V d _ (by rw[hV];simp) x2 hG (by omega) g1 h2 (by simp[ka,JW,jt])
    ·rw[vR fs f x k bg d hw (by rw[es,h2];rfl),es]
     refine ih n x _ bg sn _ _ N hx hl.2.1 hS hn (by omega) (g2 (by simpa using h2)) ?_ (by simp;omega) hN2;intro u hu
     rcases List.mem_append.1 hu with hu | hu
     ·exact hA u hu
     ·rw[List.mem_singleton.1 hu];exact x2
   ·-- an inclusion
    have es:fa fs f x k bg d=lC (b7 fs f) fs x (av (aj fs x) k).2 (jt (aC fs x) (aj fs x) (av (aj fs x) k).1.pos) bg d:=by
     unfold fa iI;rw[hi,if_pos rfl]
    have stop:∀(W:List Tk) (u:Tk) (fl:oI),pg fs x (av (aj fs x) k).2 (jt (aC fs x) (aj fs x) (av (aj fs x) k).1.pos) d=.inl fl->fl=(u.rule,JW u)->(u.rule==0)=false->RelR fs N (aX fs (f+1) x k bg d) (out++[u],sn):=fun W u fl hfl2 e h0=>by
     have e2:lC (b7 fs f) fs x (av (aj fs x) k).2 (jt (aC fs x) (aj fs x) (av (aj fs x) k).1.pos) bg d=((fl,bg,d),(av (aj fs x) k).2):=by
      unfold lC;rw[hfl2]
     rw[mQ fs f x k bg d hw (by rw[es,e2,e];exact h0),es,e2];exact RelR.ends out u d rfl h0 hG hA e
    cases hb:cK out
    ·rw[hb]at hop
     rw[FE _ _ _ _ _ _ e1 (by exact hi) hb];exact stop out (oL (ka (aC fs x) (aj fs x) (av (aj fs x) k).1) 4) _ (by unfold pg;rw[if_pos (by rw[hop];rfl)];rfl) rfl rfl
    ·rw[hb]at hop
     have hop':¬i8 d=true:=by rw[hop];simp
     obtain⟨z,hz⟩:∃z,z=(av (aj fs x) k).2:=⟨_,rfl⟩
     rw[<-hz]at hl hl2 es stop ⊢;have ha:=eK (aj fs x) z hl.2.1;obtain⟨a1,a2⟩:=qE (aj fs x) z hl.2.1
     cases hwa:aG (av (aj fs x) z).1
     ·obtain⟨y1,y2⟩:=a2 hwa
      rw[iW _ _ z hwa,C0 _ _ _ _ _ _ e1 (by exact hi) hb]
      have hnm:cN fs (ka (aC fs x) (aj fs x) (av (aj fs x) z).1).s (ka (aC fs x) (aj fs x) (av (aj fs x) z).1).rule=if(av (aj fs x) z).1.fin=true then 7 else(av (aj fs x) z).1.rule:=by
       cases hfa:(av (aj fs x) z).1.fin
       ·exact EI fs _ _ (jb hwa hfa)
       ·exact Eh fs _ _ (y2 hfa) y1
      refine stop out _ _ (by unfold pg;rw[if_neg hop',if_pos hwa]) (by simp only[gK,oL,JW];rw[hnm];rfl) ?_;simp only[oL];rw[hnm]
      cases hfa:(av (aj fs x) z).1.fin
      ·exact jb hwa hfa
      ·rfl
     ·have ha2:=ha.2.2 hwa
      obtain⟨y1,y2⟩:=a1 hwa;obtain⟨z2,hz2⟩:∃z2,z2=(av (aj fs x) z).2:=⟨_,rfl⟩
      rw[i6 _ _ z hl.2.1 hwa,<-hz2];rw[<-hz2]at ha ha2;have hbl:=eK (aj fs x) z2 ha.2.1;obtain⟨b1,b2⟩:=qE (aj fs x) z2 ha.2.1
      obtain⟨tl,htl⟩:∃tl,kt (aC fs x) (aj fs x) z2=ka (aC fs x) (aj fs x) (av (aj fs x) z2).1 :: tl:=by
       cases hwb:aG (av (aj fs x) z2).1
       ·exact⟨[],iW _ _ z2 hwb⟩
       ·exact⟨_,i6 _ _ z2 ha.2.1 hwb⟩
      rw[htl,CI _ _ _ _ _ _ _ _ e1 (by exact hi) hb]
      have hnm:cN fs (ka (aC fs x) (aj fs x) (av (aj fs x) z).1).s (ka (aC fs x) (aj fs x) (av (aj fs x) z).1).rule=if dw (av (aj fs x) z).1.text=true then 5 else if bu fs (av (aj fs x) z).1.text<0 then 6 else 0:=by
       exact Bo fs _ _ y2 y1
      rw[hnm];have hes:(ka (aC fs x) (aj fs x) (av (aj fs x) z).1).s=(av (aj fs x) z).1.text:=rfl;rw[hes]
      cases hdl:dw (av (aj fs x) z).1.text
      ·by_cases hfd:bu fs (av (aj fs x) z).1.text<0
       ·simp only[Bool.false_eq_true,if_false,if_pos hfd]
        rw[if_pos (show((6:Int)==0)=false from rfl)];exact stop out _ _ (by unfold pg;rw[if_neg hop',if_neg (by rw[hwa];simp),if_neg (by rw[hdl];simp),if_pos hfd];rfl) rfl rfl
       ·simp only[Bool.false_eq_true,if_false,if_neg hfd]
        rw[if_neg (show ¬((0:Int)==0)=false by decide)]
        have hcl:dm (ka (aC fs x) (aj fs x) (av (aj fs x) z2).1).s (ka (aC fs x) (aj fs x) (av (aj fs x) z2).1).rule=if aG (av (aj fs x) z2).1=false then(if(av (aj fs x) z2).1.fin=true then 7 else(av (aj fs x) z2).1.rule) else if((av (aj fs x) z2).1.text.toList == [36,93])=false then 5 else 0:=by
         cases hwb:aG (av (aj fs x) z2).1
         ·obtain⟨y3,y4⟩:=b2 hwb
          rw[if_pos rfl]
          cases hfa:(av (aj fs x) z2).1.fin
          ·exact AM _ _ (jb hwb hfa)
          ·exact Bz _ _ (y4 hfa) y3
         ·obtain⟨y3,y4⟩:=b1 hwb
          rw[if_neg (by simp)];exact zs _ _ y4 y3
        rw[hcl]
        cases hwb:aG (av (aj fs x) z2).1
        ·rw[if_pos rfl]
         have hne:((if(av (aj fs x) z2).1.fin=true then 7 else(av (aj fs x) z2).1.rule)==0)=false:=by
          cases hfa:(av (aj fs x) z2).1.fin
          ·exact jb hwb hfa
          ·rfl
         rw[if_pos hne];exact stop out _ _ (by unfold pg;rw[if_neg hop',if_neg (by rw[hwa];simp),if_neg (by rw[hdl];simp),if_neg hfd,<-hz2,if_pos hwb];rfl) rfl hne
        ·simp only[Bool.true_eq_false,if_false]
         cases hcb:((av (aj fs x) z2).1.text.toList == [36,93])
         ·rw[if_pos rfl,if_pos (show((5:Int)==0)=false from rfl)]
          exact stop out _ _ (by unfold pg;rw[if_neg hop',if_neg (by rw[hwa];simp),if_neg (by rw[hdl];simp),if_neg hfd,<-hz2,if_neg (by rw[hwb];simp),if_pos hcb];rfl) rfl rfl
         ·simp only[Bool.true_eq_false,if_false]
          rw[if_neg (show ¬((0:Int)==0)=false by decide)]
          -- the file is named
          have hb2:=hbl.2.2 hwb
          have etl:tl=kt (aC fs x) (aj fs x) (av (aj fs x) z2).2:=by
           rw[i6 _ _ z2 ha.2.1 hwb]at htl;exact(List.cons.inj htl).2.symm
          rw[etl];obtain⟨j,hj⟩:∃j,j=(bu fs (av (aj fs x) z).1.text).toNat:=⟨_,rfl⟩
          have hjl:j<fs.length:=by
           rcases nE (av (aj fs x) z).1.text fs with h | ⟨q,hq,h⟩
           ·rw[h]at hfd;omega
           ·rw[hj,h,Int.toNat_natCast];exact hq
          rw[<-hj]
          have einc:fa fs f x k bg d=(b7 fs f j bg d,(av (aj fs x) z2).2):=by
           rw[es];unfold lC pg;rw[if_neg hop',if_neg (by rw[hwa];simp),if_neg (by rw[hdl];simp),if_neg hfd,<-hz2,if_neg (by rw[hwb];simp),if_neg (by rw[hcb];simp),<-hj]
          have hsn:=hS.e j hjl
          cases hbj:bg.getD j true
          ·rw[hbj]at hsn
           have hsf:sn[j]?=some false:=by
            have:=hS.s;rw[List.getElem?_eq_getElem (by omega)];rw[List.getD_eq_getElem?_getD,List.getElem?_eq_getElem (by omega)]at hsn;exact congrArg some hsn.symm
           have hun:=jS sn j hsf;rw[if_neg (by rw[<-hsn];simp)];have efile:b7 fs f j bg d=aX fs f j 0 (bg.set j true) d:=by unfold b7;rw[hbj,if_neg (by simp)]
           obtain⟨m,hm⟩:∃m,n=m+1:=⟨n-1,by omega⟩
           have er:dx fs n j sn out=b9 (dx fs m) fs (kt (aC fs j) (aj fs j) 0) (sn.set j true) out:=by rw[hm,dx,wg]
           have hszj:=hsz j hjl;have R1:=ih m j 0 (bg.set j true) (sn.set j true) d out (out.length+1025*aO sn) hjl (Nat.zero_le _) (hS.set hfl j hjl) (by omega) (by omega) hG hA (by omega) (by omega);rw[<-er,<-efile]at R1;have hpre:=rm fs n j sn out;generalize dx fs n j sn out=RR at *
           rcases R1 with ⟨r1,r2,r3,r4,r5⟩ | ⟨W,u,d0,r1,r2,r3,r4,r5⟩ | ⟨W,t,V,d0,r,r1,r2,r3,r4,r5,r6,r7⟩
           ·rw[vU r3,if_neg (by simp),vR fs f x k bg d hw (by rw[einc,r1];rfl),einc]
            have hus:aO RR.2<=aO sn:=by
             obtain⟨V,hV⟩:=hpre;rw[hV,List.length_append]at r5;omega
            exact ih n x _ _ RR.2 _ RR.1 N hx hbl.2.1 r4 (by omega) (by simp only;omega) r2 r3 (by simp only;omega) hN2
           ·have hbk:dJ RR.1=true:=by unfold dJ;rw[r1,List.getLast?_concat];simp only;rw[r2];rfl
            rw[hbk,if_pos rfl,mQ fs f x k bg d hw (by rw[einc,r5];exact r2),einc];exact RelR.ends W u d0 r1 r2 r3 r4 r5
           ·rw[mQ fs f x k bg d hw (by rw[einc,r7];exact r6),einc]
            cases hbk:dJ RR.1
            ·rw[if_neg (by simp)]
             obtain⟨V2,hV2⟩:=xt (dx fs n) fs (rm fs n) _ (kt (aC fs x) (aj fs x) (av (aj fs x) z2).2) (Nat.le_refl _) RR.2 RR.1;exact RelR.rule W t (V++V2) d0 r (by rw[hV2,r1];simp) r2 r3 (by omega) r5 r6 r7
            ·rw[if_pos rfl]
             exact RelR.rule W t V d0 r r1 r2 r3 (by omega) r5 r6 r7
          ·rw[hbj]at hsn
           have efile:b7 fs f j bg d=(cJ,bg,d):=by unfold b7;rw[hbj,if_pos rfl]
           rw[if_pos hsn.symm,vR fs f x k bg d hw (by rw[einc,efile];rfl),einc,efile];exact ih n x _ bg sn d out N hx hbl.2.1 hS hn (by omega) hG hA (by omega) hN2
      ·simp only[if_true]
       rw[if_pos (show((5:Int)==0)=false from rfl)];exact stop out _ _ (by unfold pg;rw[if_neg hop',if_neg (by rw[hwa];simp),if_pos hdl];rfl) rfl rfl
def FF(t:Tk):oI:=(t.rule,JW t)
def go(fs:Fs)(k:Nat):oI :=
 if((vu (da fs k).1 (as (da fs k).1)).rule==0)=false then FF (vu (da fs k).1 (as (da fs k).1)) else FF (da fs k).2
theorem CB{W:List Tk}{d:Db}(h:si W d):vu W (as W)=ic:=JZ h.u
theorem zw(fs:Fs)(k:Nat)(hfl:fs.length<=4)(hsz:∀j,j<fs.length->(aj fs j).size<=1024)(hk:k<fs.length) :
  (cO fs k).1=go fs k/\(((cO fs k).1.1==0)=true->si (da fs k).1 (cO fs k).2.2/\(da fs k).1.length<=10000):=by
 have hS0:Lb fs Cl (List.replicate fs.length false):=⟨rfl,by simp,fun j hj=>by
  rw[List.getD_eq_getElem?_getD,List.getD_eq_getElem?_getD,List.getElem?_replicate,if_pos hj]
  match j,(show j<4 by omega) with
  | 0,_=>rfl
  | 1,_=>rfl
  | 2,_=>rfl
  | 3,_=>rfl⟩
 have hsn:(List.replicate fs.length false)[k]?=some false:=by rw[List.getElem?_replicate,if_pos hk]
 have hun:=jS _ k hsn;rw[ly]at hun;have hszk:=hsz k hk
 have e1:cO fs k=aX fs 5000 k 0 (Cl.set k true) eD:=by
  unfold cO b7;rw[hS0.e k hk,List.getD_eq_getElem?_getD,hsn];rfl
 have e2:dx fs fs.length k (List.replicate fs.length false) []=b9 (dx fs (fs.length-1)) fs (kt (aC fs k) (aj fs k) 0) ((List.replicate fs.length false).set k true) []:=by
  obtain⟨m,hm⟩:∃m,fs.length=m+1:=⟨fs.length-1,by omega⟩
  have:fs.length-1=m:=by omega
  rw[this]
  conv=>lhs;rw[show dx fs fs.length=dx fs (m+1) by rw[hm]]
  rw[dx,wg]
 have R1:=Gw fs hfl hsz 5000 (fs.length-1) k 0 (Cl.set k true) ((List.replicate fs.length false).set k true) eD [] 5000 hk (Nat.zero_le _) (hS0.set hfl k hk) (by omega) (by omega) (GJ rfl) (fun t ht=>by cases ht) (by simp only[List.length_nil];omega) (by omega);rw[<-e1,<-e2]at R1;have ea:(dx fs fs.length k (List.replicate fs.length false) []).1=np fs k:=rfl;generalize dx fs fs.length k (List.replicate fs.length false) []=RR at *;unfold go da
 rcases R1 with ⟨r1,r2,r3,r4,r5⟩ | ⟨W,u,d0,r1,r2,r3,r4,r5⟩ | ⟨W,t,V,d0,r,r1,r2,r3,r4,r5,r6,r7⟩
 ·rw[ea]at r2 r3 r5
  simp only[vU r3,Bool.false_eq_true,if_false];rw[CB r2,if_neg (by decide)];exact⟨r1,fun _=>⟨r2,by omega⟩⟩
 ·rw[ea]at r1
  have hbk:dJ (np fs k)=true:=by unfold dJ;rw[r1,List.getLast?_concat];simp only;rw[r2];rfl
  rw[hbk,if_pos rfl,r1,List.dropLast_concat,List.getLast?_concat];simp only[Option.getD_some];rw[CB r3,if_neg (by decide)];exact⟨r5,fun h=>by rw[r5]at h;simp only at h;rw[r2]at h;cases h⟩
 ·rw[ea]at r1
  obtain⟨V',hV'⟩:∃V',(if dJ (np fs k)=true then((np fs k).dropLast,(np fs k).getLast?.getD ic) else(np fs k,ic)).1=(W++[t])++V':=by
   cases hbk:dJ (np fs k)
   ·rw[if_neg (by simp)]
    exact⟨V,by simp only;rw[r1];simp⟩
   ·rw[if_pos rfl]
    cases V with
    | nil =>
     unfold dJ at hbk;rw[r1,List.getLast?_concat]at hbk;simp only[r2]at hbk
     cases hbk
    | cons v V=>exact⟨(v :: V).dropLast,by simp only;rw[r1,List.dropLast_append_of_ne_nil (by simp),List.dropLast_cons_of_ne_nil (by simp)];simp⟩
  rw[hV'];have hu:=po W (t :: V') (by omega) r3.u;have hb:=uI (W++[t]) V' (by simp;omega) W.length (by simp) (fun j hj=>po W [t] (by omega) r3.u j hj);rw[r5]at hb
  have hff:=GB (T:=(W++[t])++V') (S:=as ((W++[t])++V')) (k:=W.length) (by simp) (by rw[hb];exact r6) (fun j hj=>by
   have:=hu j hj;rw[show W++t :: V'=(W++[t])++V' by simp]at this;exact this)
  have hg:((W++[t])++V').getD W.length ic=t:=by
   rw[List.getD_eq_getElem?_getD,List.append_assoc,List.getElem?_append_right (Nat.le_refl _),Nat.sub_self];simp
  rw[hff,hb,hg];simp only;rw[if_pos r6];exact⟨r7,fun h=>by rw[r7]at h;simp only at h;rw[r6]at h;cases h⟩
end Go.Proofs.YtpddjjabfbfifaaGreat
