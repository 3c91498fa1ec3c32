import Derived.Deep.RegionLaw
import Derived.Test.YtpddjjabfbfifaaGreatG48
namespace Go.Proofs.YtpddjjabfbfifaaGreat
open Go.RowKit
set_option maxHeartbeats 40000000
section
variable (rec:Nat->List Bool->List Tk->List Tk×List Bool) (fs:Fs)
theorem CJ(t:Tk)(r:List Tk)(sn:List Bool)(out:List Tk)(h:((t.rule==0)&&(t.s.toList == []))=true):b9 rec fs (t :: r) sn out=((if cZ out=true then out else out++[oN t 7]),sn):=by
 rw[b9.eq_def];exact if_pos h
theorem uR(t:Tk)(r:List Tk)(sn:List Bool)(out:List Tk)(h:((t.rule==0)&&(t.s.toList == []))=false)(h2:(t.s.toList == [36,91])=false):b9 rec fs (t :: r) sn out=b9 rec fs r sn (out++[t]):=by
 rw[b9.eq_def];simp only;rw[if_neg (by rw[h];simp),if_pos h2]
theorem GQ(t:Tk)(r:List Tk)(sn:List Bool)(out:List Tk)(h:((t.rule==0)&&(t.s.toList == []))=false)(h2:(t.s.toList == [36,91])=true)(h3:cZ out=false):b9 rec fs (t :: r) sn out=(out++[oN t 4],sn):=by
 rw[b9.eq_def];simp only;rw[if_neg (by rw[h];simp),if_neg (by rw[h2];simp),if_pos h3]
theorem Ct(t a:Tk)(sn:List Bool)(out:List Tk)(h:((t.rule==0)&&(t.s.toList == []))=false)(h2:(t.s.toList == [36,91])=true)(h3:cZ out=true):b9 rec fs [t,a] sn out=(out++[oN a (cM fs a.s a.rule)],sn):=by
 rw[b9.eq_def];simp only;rw[if_neg (by rw[h];simp),if_neg (by rw[h2];simp),if_neg (by rw[h3];simp)]
theorem Cz(t a b:Tk)(r:List Tk)(sn:List Bool)(out:List Tk)(h:((t.rule==0)&&(t.s.toList == []))=false)(h2:(t.s.toList == [36,91])=true)(h3:cZ out=true):b9 rec fs (t :: a :: b :: r) sn out =
  if(cM fs a.s a.rule==0)=false then(out++[oN a (cM fs a.s a.rule)],sn)
  else if(di b.s b.rule==0)=false then(out++[oN b (di b.s b.rule)],sn)
  else if sn.getD (bt fs a.s).toNat true=true then b9 rec fs r sn out
  else if dI (rec (bt fs a.s).toNat sn out).1=true then rec (bt fs a.s).toNat sn out
  else b9 rec fs r (rec (bt fs a.s).toNat sn out).2 (rec (bt fs a.s).toNat sn out).1:=by
 rw[b9.eq_def];simp only;rw[if_neg (by rw[h];simp),if_neg (by rw[h2];simp),if_neg (by rw[h3];simp)]
theorem wJ(hrec:∀j sn out,∃V,(rec j sn out).1=out++V)(n:Nat):∀L,L.length<=n->∀sn out,∃V,(b9 rec fs L sn out).1=out++V:=by
 induction n with
 | zero =>
  intro L hL sn out;have:L=[]:=List.eq_nil_of_length_eq_zero (by omega);subst this;exact⟨[],by rw[b9.eq_def];simp⟩
 | succ n ih =>
  intro L hL sn out
  cases L with
  | nil=>exact⟨[],by rw[b9.eq_def];simp⟩
  | cons t r =>
   simp only[List.length_cons]at hL
   cases h:((t.rule==0)&&(t.s.toList == []))
   ·cases h2:(t.s.toList == [36,91])
    ·rw[uR rec fs t r sn out h h2]
     obtain⟨V,hV⟩:=ih r (by omega) sn (out++[t]);exact⟨t :: V,by rw[hV];simp⟩
    ·cases h3:cZ out
     ·rw[GQ rec fs t r sn out h h2 h3];exact⟨_,rfl⟩
     ·match r,hL with
      | [],_ =>
       refine⟨[],?_⟩;rw[b9.eq_def];simp only;rw[if_neg (by rw[h];simp),if_neg (by rw[h2];simp),if_neg (by rw[h3];simp)];simp
      | [a],_=>rw[Ct rec fs t a sn out h h2 h3];exact⟨_,rfl⟩
      | a :: b :: r',hL =>
       simp only[List.length_cons]at hL;rw[Cz rec fs t a b r' sn out h h2 h3]
       split
       ·exact⟨_,rfl⟩
       ·split
        ·exact⟨_,rfl⟩
        ·split
         ·exact ih r' (by omega) sn out
         ·obtain⟨V,hV⟩:=hrec (bt fs a.s).toNat sn out
          split
          ·exact⟨V,hV⟩
          ·obtain⟨V2,hV2⟩:=ih r' (by omega) (rec (bt fs a.s).toNat sn out).2 (rec (bt fs a.s).toNat sn out).1
           exact⟨V++V2,by rw[hV2,hV];simp⟩
   ·rw[CJ rec fs t r sn out h]
    simp only
    split
    ·exact⟨[],by simp⟩
    ·exact⟨_,rfl⟩
end
theorem qF(fs:Fs)(n:Nat):∀j sn out,∃V,(dx fs n j sn out).1=out++V:=by
 induction n with
 | zero=>intro j sn out;exact⟨[],by simp[dx]⟩
 | succ n ih=>intro j sn out;rw[dx];exact wJ (dx fs n) fs ih _ _ (Nat.le_refl _) _ _
def Jt(L:List Tk):Prop:=∀t∈L,t.rule=0
def J2(t:Tk):Pl:=⟨t.file,t.line,t.col⟩
structure La(fs:Fs)(bg sn:List Bool):Prop where
 b:bg.length=4
 s:sn.length=fs.length
 e:∀j,j<fs.length->bg.getD j true=sn.getD j true
theorem La.set{fs:Fs}{bg sn:List Bool}(h:La fs bg sn)(hfl:fs.length<=4)(k:Nat)(hk:k<fs.length):La fs (bg.set k true) (sn.set k true):=by
 refine⟨by rw[List.length_set];exact h.b,by rw[List.length_set];exact h.s,fun j hj=>?_⟩;have:=h.b;have:=h.s;rw[List.getD_eq_getElem?_getD,List.getD_eq_getElem?_getD,List.getElem?_set,List.getElem?_set]
 by_cases e:k=j
 ·rw[if_pos e,if_pos e,if_pos (by omega),if_pos (by omega)]
 ·rw[if_neg e,if_neg e]
  have:=h.e j hj;rw[List.getD_eq_getElem?_getD,List.getD_eq_getElem?_getD]at this;exact this
inductive RelR (fs:Fs) (N:Nat) (res:Gi) (R:List Tk×List Bool):Prop
 | good:res.1=cI->sq R.1 res.2.2->Jt R.1->La fs res.2.1 R.2->R.1.length+1025*aO R.2<=N->RelR fs N res R
 | ends (W:List Tk) (u:Tk) (d:Db):R.1=W++[u]->(u.rule==0)=false->sq W d->Jt W->res.1=(u.rule,J2 u)->RelR fs N res R
 | rule (W:List Tk) (t:Tk) (V:List Tk) (d:Db) (r:Int):R.1=W++t :: V->t.rule=0->sq W d->W.length+1<=N->a9 (W++[t]) (as (W++[t])) W.length=r->(r==0)=false->res.1=(r,J2 t)->RelR fs N res R
theorem vu{L:List Tk}(h:Jt L):dI L=false:=by
 unfold dI
 cases e:L.getLast? with
 | none=>rfl
 | some t =>
  have:=h t (List.mem_of_getLast? e);simp[this]
theorem rr(d:ByteArray)(k:Nat)(hk:k<=d.size):(aG (av d k).1=true->((av d k).1.text.toList == [])=false/\(av d k).1.rule=0)/\(aG (av d k).1=false->(av d k).1.text=⟨#[]⟩/\((av d k).1.fin=true->(av d k).1.rule=0)):=by
 have com:∀f k,k<=d.size->aG (bQ d f k).1=false->(bQ d f k).1.text=⟨#[]⟩/\((bQ d f k).1.fin=true->(bQ d f k).1.rule=0):=by
  intro f
  induction f with
  | zero=>intro k _ _;exact⟨rfl,fun h=>by cases h⟩
  | succ f ih =>
   intro k hk h;have hl:=fq d k hk;rw[bQ]at h ⊢
   split
   ·next h1 =>
    rw[if_pos h1]at h
    split
    ·exact⟨rfl,fun h=>by cases h⟩
    ·next h2 =>
     rw[if_neg h2]at h;exact ih _ hl.2.1 h
   ·next h1 =>
    rw[if_neg h1]at h
    split
    ·exact⟨rfl,fun h=>by cases h⟩
    ·next h2 =>
     rw[if_neg h2]at h;exact(qx d k hk).2 h
 unfold av
 suffices hs:∀f k,k<=d.size->(aG (dg d f k).1=true->((dg d f k).1.text.toList == [])=false/\(dg d f k).1.rule=0)/\(aG (dg d f k).1=false->(dg d f k).1.text=⟨#[]⟩/\((dg d f k).1.fin=true->(dg d f k).1.rule=0)) from hs _ _ hk
 clear hk k;intro f
 induction f with
 | zero=>intro k hk;exact⟨fun h=>by simp[dg,aG]at h,fun _=>⟨rfl,fun _=>rfl⟩⟩
 | succ f ih =>
  intro k hk;have hl:=fq d k hk;have hc:=gZ d (bi d k).2 hl.2.1;rw[dg]
  split
  ·split
   ·exact ih _ hc.2
   ·next h2 =>
    refine⟨fun h=>absurd h h2,fun h=>?_⟩;exact com _ _ hl.2.1 h
  ·exact qx d k hk
theorem El(fs:Fs)(s:ByteArray)(r:Int)(h:(r==0)=false):cM fs s r=r:=by unfold cM;exact if_pos h
theorem Fi(fs:Fs)(s:ByteArray)(r:Int)(h:r=0)(hs:s=⟨#[]⟩):cM fs s r=7:=by
 subst h hs;unfold cM;rw[if_neg (by simp),if_pos mw]
theorem Bz(fs:Fs)(s:ByteArray)(r:Int)(h:r=0)(hs:(s.toList == [])=false):cM fs s r=if dw s=true then 5 else if bt fs s<0 then 6 else 0:=by
 subst h;unfold cM;rw[if_neg (by simp),if_neg (by rw[hs];simp),ia]
theorem Ci(s:ByteArray)(r:Int)(h:(r==0)=false):di s r=r:=by unfold di;exact if_pos h
theorem Ai(s:ByteArray)(r:Int)(h:r=0)(hs:s=⟨#[]⟩):di s r=7:=by
 subst h hs;unfold di;rw[if_neg (by simp),if_pos mw]
theorem yb(s:ByteArray)(r:Int)(h:r=0)(hs:(s.toList == [])=false):di s r=if(s.toList == [36,93])=false then 5 else 0:=by
 subst h;unfold di;rw[if_neg (by simp),if_neg (by rw[hs];simp)]
theorem FB(fs:Fs)(hfl:fs.length<=4)(hsz:∀j,j<fs.length->(aj fs j).size<=1024)(f:Nat):∀n x k bg sn d out N,x<fs.length->k<=(aj fs x).size->La fs bg sn->aO sn<=n ->
  ((aj fs x).size-k+1)+1025*aO sn<=f->sq out d->Jt out->out.length+((aj fs x).size-k+1)+1025*aO sn<=N->N<=100000 ->
  RelR fs N (aX fs f x k bg d) (b9 (dx fs n) fs (kC (aC fs x) (aj fs x) k) sn out):=by
 induction f with
 | zero=>intro n x k bg sn d out N _ _ _ _ h;omega
 | succ f ih =>
  intro n x k bg sn d out N hx hk hS hn hf hG hA hN hN2;have hl:=eM (aj fs x) k hk;obtain⟨t1,t2⟩:=rr (aj fs x) k hk;have hop:=hG.open
  cases hw:aG (av (aj fs x) k).1
  ·-- the file ends,or a word's stead is taken
   obtain⟨x1,x2⟩:=t2 hw;rw[iW _ _ k hw]
   cases hfn:(av (aj fs x) k).1.fin
   ·have hr:((av (aj fs x) k).1.rule==0)=false:=i8 hw hfn
    have e1:((kc (aC fs x) (aj fs x) (av (aj fs x) k).1).rule==0&&((kc (aC fs x) (aj fs x) (av (aj fs x) k).1).s.toList == []))=false:=by simp only[kc];rw[hr];rfl
    have e2:((kc (aC fs x) (aj fs x) (av (aj fs x) k).1).s.toList == [36,91])=false:=by simp only[kc];rw[x1];decide +kernel
    rw[uR _ _ _ _ _ _ e1 e2,ut fs f x k bg d hw (by rw[hfn];simp)];refine RelR.ends out _ d (by rw[b9.eq_def]) hr hG hA ?_;simp[gF,hfn,kc,J2,jB]
   ·have e1:((kc (aC fs x) (aj fs x) (av (aj fs x) k).1).rule==0&&((kc (aC fs x) (aj fs x) (av (aj fs x) k).1).s.toList == []))=true:=by simp only[kc];rw[x1,x2 hfn,mw];rfl
    rw[CJ _ _ _ _ _ _ e1]
    cases hb:cZ out
    ·rw[hb]at hop
     rw[ut fs f x k bg d hw (by rw[hop];simp)];refine RelR.ends out (oN (kc (aC fs x) (aj fs x) (av (aj fs x) k).1) 7) d (by simp) rfl hG hA ?_;simp[gF,hfn,kc,J2,jB,oN]
    ·rw[hb]at hop
     rw[xf fs f x k bg d hw hfn hop];exact RelR.good rfl (by simp only[if_true];exact hG) (by simp only[if_true];exact hA) hS (by simp only[if_true];omega)
  ·have hl2:=hl.2.2 hw
   obtain⟨x1,x2⟩:=t1 hw;rw[i6 _ _ k hk hw];have e1:((kc (aC fs x) (aj fs x) (av (aj fs x) k).1).rule==0&&((kc (aC fs x) (aj fs x) (av (aj fs x) k).1).s.toList == []))=false:=by simp only[kc];rw[x1];simp
   cases hi:((av (aj fs x) k).1.text.toList == [36,91])
   ·-- a word is taken
    rw[uR _ _ _ _ _ _ e1 (by exact hi)]
    have es:eW fs f x k bg d=((if((aV d (av (aj fs x) k).1.text (jB (aC fs x) (aj fs x) (av (aj fs x) k).1.pos)).1==0)=true then cI else((aV d (av (aj fs x) k).1.text (jB (aC fs x) (aj fs x) (av (aj fs x) k).1.pos)).1,jB (aC fs x) (aj fs x) (av (aj fs x) k).1.pos),bg,(aV d (av (aj fs x) k).1.text (jB (aC fs x) (aj fs x) (av (aj fs x) k).1.pos)).2),(av (aj fs x) k).2):=by
     unfold eW iG;rw[hi];simp
    obtain⟨g1,g2⟩:=hG.step (t:=kc (aC fs x) (aj fs x) (av (aj fs x) k).1) (by omega) x1 (jB (aC fs x) (aj fs x) (av (aj fs x) k).1.pos);have e3:(kc (aC fs x) (aj fs x) (av (aj fs x) k).1).s=(av (aj fs x) k).1.text:=rfl;rw[e3]at g1 g2
    cases h2:((aV d (av (aj fs x) k).1.text (jB (aC fs x) (aj fs x) (av (aj fs x) k).1.pos)).1==0)
    ·rw[mO fs f x k bg d hw (by rw[es,h2];simpa using h2),es,h2]
     obtain⟨V,hV⟩:=wJ (dx fs n) fs (qF fs n) _ _ (Nat.le_refl _) sn (out++[kc (aC fs x) (aj fs x) (av (aj fs x) k).1]);exact RelR.rule out (kc (aC fs x) (aj fs x) (av (aj fs x) k).1) V d _ (by rw[hV];simp) x2 hG (by omega) g1 h2 (by simp[kc,J2,jB])
    ·rw[wl fs f x k bg d hw (by rw[es,h2];rfl),es]
     refine ih n x _ bg sn _ _ N hx hl.2.1 hS hn (by omega) (g2 (by simpa using h2)) ?_ (by simp;omega) hN2;intro u hu
     rcases List.mem_append.1 hu with hu | hu
     ·exact hA u hu
     ·rw[List.mem_singleton.1 hu];exact x2
   ·-- an inclusion
    have es:eW fs f x k bg d=lC (bZ fs f) fs x (av (aj fs x) k).2 (jB (aC fs x) (aj fs x) (av (aj fs x) k).1.pos) bg d:=by
     unfold eW iG;rw[hi,if_pos rfl]
    have stop:∀(W:List Tk) (u:Tk) (fl:oR),pq fs x (av (aj fs x) k).2 (jB (aC fs x) (aj fs x) (av (aj fs x) k).1.pos) d=.inl fl->fl=(u.rule,J2 u)->(u.rule==0)=false->RelR fs N (aX fs (f+1) x k bg d) (out++[u],sn):=fun W u fl hfl2 e h0=>by
     have e2:lC (bZ fs f) fs x (av (aj fs x) k).2 (jB (aC fs x) (aj fs x) (av (aj fs x) k).1.pos) bg d=((fl,bg,d),(av (aj fs x) k).2):=by
      unfold lC;rw[hfl2]
     rw[mO fs f x k bg d hw (by rw[es,e2,e];exact h0),es,e2];exact RelR.ends out u d rfl h0 hG hA e
    cases hb:cZ out
    ·rw[hb]at hop
     rw[GQ _ _ _ _ _ _ e1 (by exact hi) hb];exact stop out (oN (kc (aC fs x) (aj fs x) (av (aj fs x) k).1) 4) _ (by unfold pq;rw[if_pos (by rw[hop];rfl)];rfl) rfl rfl
    ·rw[hb]at hop
     have hop':¬jb d=true:=by rw[hop];simp
     obtain⟨z,hz⟩:∃z,z=(av (aj fs x) k).2:=⟨_,rfl⟩
     rw[<-hz]at hl hl2 es stop ⊢;have ha:=eM (aj fs x) z hl.2.1;obtain⟨a1,a2⟩:=rr (aj fs x) z hl.2.1
     cases hwa:aG (av (aj fs x) z).1
     ·obtain⟨y1,y2⟩:=a2 hwa
      rw[iW _ _ z hwa,Ct _ _ _ _ _ _ e1 (by exact hi) hb]
      have hnm:cM fs (kc (aC fs x) (aj fs x) (av (aj fs x) z).1).s (kc (aC fs x) (aj fs x) (av (aj fs x) z).1).rule=if(av (aj fs x) z).1.fin=true then 7 else(av (aj fs x) z).1.rule:=by
       cases hfa:(av (aj fs x) z).1.fin
       ·exact El fs _ _ (i8 hwa hfa)
       ·exact Fi fs _ _ (y2 hfa) y1
      refine stop out _ _ (by unfold pq;rw[if_neg hop',if_pos hwa]) (by simp only[gF,oN,J2];rw[hnm];rfl) ?_;simp only[oN];rw[hnm]
      cases hfa:(av (aj fs x) z).1.fin
      ·exact i8 hwa hfa
      ·rfl
     ·have ha2:=ha.2.2 hwa
      obtain⟨y1,y2⟩:=a1 hwa;obtain⟨z2,hz2⟩:∃z2,z2=(av (aj fs x) z).2:=⟨_,rfl⟩
      rw[i6 _ _ z hl.2.1 hwa,<-hz2];rw[<-hz2]at ha ha2;have hbl:=eM (aj fs x) z2 ha.2.1;obtain⟨b1,b2⟩:=rr (aj fs x) z2 ha.2.1
      obtain⟨tl,htl⟩:∃tl,kC (aC fs x) (aj fs x) z2=kc (aC fs x) (aj fs x) (av (aj fs x) z2).1 :: tl:=by
       cases hwb:aG (av (aj fs x) z2).1
       ·exact⟨[],iW _ _ z2 hwb⟩
       ·exact⟨_,i6 _ _ z2 ha.2.1 hwb⟩
      rw[htl,Cz _ _ _ _ _ _ _ _ e1 (by exact hi) hb]
      have hnm:cM fs (kc (aC fs x) (aj fs x) (av (aj fs x) z).1).s (kc (aC fs x) (aj fs x) (av (aj fs x) z).1).rule=if dw (av (aj fs x) z).1.text=true then 5 else if bt fs (av (aj fs x) z).1.text<0 then 6 else 0:=by
       exact Bz fs _ _ y2 y1
      rw[hnm];have hes:(kc (aC fs x) (aj fs x) (av (aj fs x) z).1).s=(av (aj fs x) z).1.text:=rfl;rw[hes]
      cases hdl:dw (av (aj fs x) z).1.text
      ·by_cases hfd:bt fs (av (aj fs x) z).1.text<0
       ·simp only[Bool.false_eq_true,if_false,if_pos hfd]
        rw[if_pos (show((6:Int)==0)=false from rfl)];exact stop out _ _ (by unfold pq;rw[if_neg hop',if_neg (by rw[hwa];simp),if_neg (by rw[hdl];simp),if_pos hfd];rfl) rfl rfl
       ·simp only[Bool.false_eq_true,if_false,if_neg hfd]
        rw[if_neg (show ¬((0:Int)==0)=false by decide)]
        have hcl:di (kc (aC fs x) (aj fs x) (av (aj fs x) z2).1).s (kc (aC fs x) (aj fs x) (av (aj fs x) z2).1).rule=if aG (av (aj fs x) z2).1=false then(if(av (aj fs x) z2).1.fin=true then 7 else(av (aj fs x) z2).1.rule) else if((av (aj fs x) z2).1.text.toList == [36,93])=false then 5 else 0:=by
         cases hwb:aG (av (aj fs x) z2).1
         ·obtain⟨y3,y4⟩:=b2 hwb
          rw[if_pos rfl]
          cases hfa:(av (aj fs x) z2).1.fin
          ·exact Ci _ _ (i8 hwb hfa)
          ·exact Ai _ _ (y4 hfa) y3
         ·obtain⟨y3,y4⟩:=b1 hwb
          rw[if_neg (by simp)];exact yb _ _ y4 y3
        rw[hcl]
        cases hwb:aG (av (aj fs x) z2).1
        ·rw[if_pos rfl]
         have hne:((if(av (aj fs x) z2).1.fin=true then 7 else(av (aj fs x) z2).1.rule)==0)=false:=by
          cases hfa:(av (aj fs x) z2).1.fin
          ·exact i8 hwb hfa
          ·rfl
         rw[if_pos hne];exact stop out _ _ (by unfold pq;rw[if_neg hop',if_neg (by rw[hwa];simp),if_neg (by rw[hdl];simp),if_neg hfd,<-hz2,if_pos hwb];rfl) rfl hne
        ·simp only[Bool.true_eq_false,if_false]
         cases hcb:((av (aj fs x) z2).1.text.toList == [36,93])
         ·rw[if_pos rfl,if_pos (show((5:Int)==0)=false from rfl)]
          exact stop out _ _ (by unfold pq;rw[if_neg hop',if_neg (by rw[hwa];simp),if_neg (by rw[hdl];simp),if_neg hfd,<-hz2,if_neg (by rw[hwb];simp),if_pos hcb];rfl) rfl rfl
         ·simp only[Bool.true_eq_false,if_false]
          rw[if_neg (show ¬((0:Int)==0)=false by decide)]
          -- the file is named
          have hb2:=hbl.2.2 hwb
          have etl:tl=kC (aC fs x) (aj fs x) (av (aj fs x) z2).2:=by
           rw[i6 _ _ z2 ha.2.1 hwb]at htl;exact(List.cons.inj htl).2.symm
          rw[etl];obtain⟨j,hj⟩:∃j,j=(bt fs (av (aj fs x) z).1.text).toNat:=⟨_,rfl⟩
          have hjl:j<fs.length:=by
           rcases nQ (av (aj fs x) z).1.text fs with h | ⟨q,hq,h⟩
           ·rw[h]at hfd;omega
           ·rw[hj,h,Int.toNat_natCast];exact hq
          rw[<-hj]
          have einc:eW fs f x k bg d=(bZ fs f j bg d,(av (aj fs x) z2).2):=by
           rw[es];unfold lC pq;rw[if_neg hop',if_neg (by rw[hwa];simp),if_neg (by rw[hdl];simp),if_neg hfd,<-hz2,if_neg (by rw[hwb];simp),if_neg (by rw[hcb];simp),<-hj]
          have hsn:=hS.e j hjl
          cases hbj:bg.getD j true
          ·rw[hbj]at hsn
           have hsf:sn[j]?=some false:=by
            have:=hS.s;rw[List.getElem?_eq_getElem (by omega)];rw[List.getD_eq_getElem?_getD,List.getElem?_eq_getElem (by omega)]at hsn;exact congrArg some hsn.symm
           have hun:=jR sn j hsf;rw[if_neg (by rw[<-hsn];simp)];have efile:bZ fs f j bg d=aX fs f j 0 (bg.set j true) d:=by unfold bZ;rw[hbj,if_neg (by simp)]
           obtain⟨m,hm⟩:∃m,n=m+1:=⟨n-1,by omega⟩
           have er:dx fs n j sn out=b9 (dx fs m) fs (kC (aC fs j) (aj fs j) 0) (sn.set j true) out:=by rw[hm,dx,vC]
           have hszj:=hsz j hjl;have R1:=ih m j 0 (bg.set j true) (sn.set j true) d out (out.length+1025*aO sn) hjl (Nat.zero_le _) (hS.set hfl j hjl) (by omega) (by omega) hG hA (by omega) (by omega);rw[<-er,<-efile]at R1;have hpre:=qF fs n j sn out;generalize dx fs n j sn out=RR at *
           rcases R1 with ⟨r1,r2,r3,r4,r5⟩ | ⟨W,u,d0,r1,r2,r3,r4,r5⟩ | ⟨W,t,V,d0,r,r1,r2,r3,r4,r5,r6,r7⟩
           ·rw[vu r3,if_neg (by simp),wl fs f x k bg d hw (by rw[einc,r1];rfl),einc]
            have hus:aO RR.2<=aO sn:=by
             obtain⟨V,hV⟩:=hpre;rw[hV,List.length_append]at r5;omega
            exact ih n x _ _ RR.2 _ RR.1 N hx hbl.2.1 r4 (by omega) (by simp only;omega) r2 r3 (by simp only;omega) hN2
           ·have hbk:dI RR.1=true:=by unfold dI;rw[r1,List.getLast?_concat];simp only;rw[r2];rfl
            rw[hbk,if_pos rfl,mO fs f x k bg d hw (by rw[einc,r5];exact r2),einc];exact RelR.ends W u d0 r1 r2 r3 r4 r5
           ·rw[mO fs f x k bg d hw (by rw[einc,r7];exact r6),einc]
            cases hbk:dI RR.1
            ·rw[if_neg (by simp)]
             obtain⟨V2,hV2⟩:=wJ (dx fs n) fs (qF fs n) _ (kC (aC fs x) (aj fs x) (av (aj fs x) z2).2) (Nat.le_refl _) RR.2 RR.1;exact RelR.rule W t (V++V2) d0 r (by rw[hV2,r1];simp) r2 r3 (by omega) r5 r6 r7
            ·rw[if_pos rfl]
             exact RelR.rule W t V d0 r r1 r2 r3 (by omega) r5 r6 r7
          ·rw[hbj]at hsn
           have efile:bZ fs f j bg d=(cI,bg,d):=by unfold bZ;rw[hbj,if_pos rfl]
           rw[if_pos hsn.symm,wl fs f x k bg d hw (by rw[einc,efile];rfl),einc,efile];exact ih n x _ bg sn d out N hx hbl.2.1 hS hn (by omega) hG hA (by omega) hN2
      ·simp only[if_true]
       rw[if_pos (show((5:Int)==0)=false from rfl)];exact stop out _ _ (by unfold pq;rw[if_neg hop',if_neg (by rw[hwa];simp),if_pos hdl];rfl) rfl rfl
def Gp(t:Tk):oR:=(t.rule,J2 t)
def gw(fs:Fs)(k:Nat):oR :=
 if((vP (da fs k).1 (as (da fs k).1)).rule==0)=false then Gp (vP (da fs k).1 (as (da fs k).1)) else Gp (da fs k).2
theorem C0{W:List Tk}{d:Db}(h:sq W d):vP W (as W)=ic:=J4 h.u
theorem zE(fs:Fs)(k:Nat)(hfl:fs.length<=4)(hsz:∀j,j<fs.length->(aj fs j).size<=1024)(hk:k<fs.length) :
  (cN fs k).1=gw fs k/\(((cN fs k).1.1==0)=true->sq (da fs k).1 (cN fs k).2.2/\(da fs k).1.length<=10000):=by
 have hS0:La fs CB (List.replicate fs.length false):=⟨rfl,by simp,fun j hj=>by
  rw[List.getD_eq_getElem?_getD,List.getD_eq_getElem?_getD,List.getElem?_replicate,if_pos hj]
  match j,(show j<4 by omega) with
  | 0,_=>rfl
  | 1,_=>rfl
  | 2,_=>rfl
  | 3,_=>rfl⟩
 have hsn:(List.replicate fs.length false)[k]?=some false:=by rw[List.getElem?_replicate,if_pos hk]
 have hun:=jR _ k hsn;rw[lq]at hun;have hszk:=hsz k hk
 have e1:cN fs k=aX fs 5000 k 0 (CB.set k true) eE:=by
  unfold cN bZ;rw[hS0.e k hk,List.getD_eq_getElem?_getD,hsn];rfl
 have e2:dx fs fs.length k (List.replicate fs.length false) []=b9 (dx fs (fs.length-1)) fs (kC (aC fs k) (aj fs k) 0) ((List.replicate fs.length false).set k true) []:=by
  obtain⟨m,hm⟩:∃m,fs.length=m+1:=⟨fs.length-1,by omega⟩
  have:fs.length-1=m:=by omega
  rw[this]
  conv=>lhs;rw[show dx fs fs.length=dx fs (m+1) by rw[hm]]
  rw[dx,vC]
 have R1:=FB fs hfl hsz 5000 (fs.length-1) k 0 (CB.set k true) ((List.replicate fs.length false).set k true) eE [] 5000 hk (Nat.zero_le _) (hS0.set hfl k hk) (by omega) (by omega) (Is rfl) (fun t ht=>by cases ht) (by simp only[List.length_nil];omega) (by omega);rw[<-e1,<-e2]at R1;have ea:(dx fs fs.length k (List.replicate fs.length false) []).1=np fs k:=rfl;generalize dx fs fs.length k (List.replicate fs.length false) []=RR at *;unfold gw da
 rcases R1 with ⟨r1,r2,r3,r4,r5⟩ | ⟨W,u,d0,r1,r2,r3,r4,r5⟩ | ⟨W,t,V,d0,r,r1,r2,r3,r4,r5,r6,r7⟩
 ·rw[ea]at r2 r3 r5
  simp only[vu r3,Bool.false_eq_true,if_false];rw[C0 r2,if_neg (by decide)];exact⟨r1,fun _=>⟨r2,by omega⟩⟩
 ·rw[ea]at r1
  have hbk:dI (np fs k)=true:=by unfold dI;rw[r1,List.getLast?_concat];simp only;rw[r2];rfl
  rw[hbk,if_pos rfl,r1,List.dropLast_concat,List.getLast?_concat];simp only[Option.getD_some];rw[C0 r3,if_neg (by decide)];exact⟨r5,fun h=>by rw[r5]at h;simp only at h;rw[r2]at h;cases h⟩
 ·rw[ea]at r1
  obtain⟨V',hV'⟩:∃V',(if dI (np fs k)=true then((np fs k).dropLast,(np fs k).getLast?.getD ic) else(np fs k,ic)).1=(W++[t])++V':=by
   cases hbk:dI (np fs k)
   ·rw[if_neg (by simp)]
    exact⟨V,by simp only;rw[r1];simp⟩
   ·rw[if_pos rfl]
    cases V with
    | nil =>
     unfold dI at hbk;rw[r1,List.getLast?_concat]at hbk;simp only[r2]at hbk
     cases hbk
    | cons v V=>exact⟨(v :: V).dropLast,by simp only;rw[r1,List.dropLast_append_of_ne_nil (by simp),List.dropLast_cons_of_ne_nil (by simp)];simp⟩
  rw[hV'];have hu:=pv W (t :: V') (by omega) r3.u;have hb:=uT (W++[t]) V' (by simp;omega) W.length (by simp) (fun j hj=>pv W [t] (by omega) r3.u j hj);rw[r5]at hb
  have hff:=Ga (T:=(W++[t])++V') (S:=as ((W++[t])++V')) (k:=W.length) (by simp) (by rw[hb];exact r6) (fun j hj=>by
   have:=hu j hj;rw[show W++t :: V'=(W++[t])++V' by simp]at this;exact this)
  have hg:((W++[t])++V').getD W.length ic=t:=by
   rw[List.getD_eq_getElem?_getD,List.append_assoc,List.getElem?_append_right (Nat.le_refl _),Nat.sub_self];simp
  rw[hff,hb,hg];simp only;rw[if_pos r6];exact⟨r7,fun h=>by rw[r7]at h;simp only at h;rw[r6]at h;cases h⟩
def Le(w:World)(v:Nat)(fs:Fs)(h:Hd)(n d:ByteArray)(p2 p3 p4:Value)(e:Ending)(w':World):Prop :=
 e=.returned (.int .i64 (gq fs n d).1)/\∃h' on',fH w' v (gq fs n d).2 h' on' p2 p3 p4/\qA w w' v h h'
theorem fH.off{w:World}{v:Nat}{fs:Fs}{h:Hd}{on:Bool}{p2 p3 p4:Value}(a:fH w v fs h on p2 p3 p4):fH (w.setCell ⟨v,1,none⟩ (.bool false)) v fs h false p2 p3 p4:=by
 have k:ab [v] w (w.setCell ⟨v,1,none⟩ (.bool false)):=(ab.refl _ _).setCell (Or.inl (by simp)) _;exact⟨by rw[ah a.d];rfl,a.own.moved (fun q hq=>k.block q (a.own.lt hq) (by simp;intro e;exact a.far (by rw[<-e];exact hq))),a.far,a.le⟩
theorem qA.set{w w':World}{v:Nat}{h h':Hd}(r:qA w w' v h h')(i:Nat)(u:Value):qA w (w'.setCell ⟨v,i,none⟩ u) v h h':=⟨r.kept.setCell (Or.inl (by simp)) _,r.blk⟩
theorem fH.grown{W w5:World}{v:Nat}{fs fs':Fs}{h h5:Hd}{on:Bool}{p2 p3 p4:Value}(a:fH W v fs h on p2 p3 p4)(g:bh W w5 h h5)(o:aA w5 h5 (b8 fs'))(hl:fs'.length<=4){m:Nat}(hm:m=fs'.length):fH (w5.setCell ⟨v,0,none⟩ (.slice h5.ao m h5.cap)) v fs' h5 on p2 p3 p4:=by
 have d5:=g.kept.get a.d (fun hq=>a.far (aK hq));have hz:=ae a.d
 have far5:h5.blk≠some v:=by
  rcases g.blk with e | ⟨q,e,hq⟩
  ·rw[e];exact a.far
  ·rw[e];intro x;cases x;omega
 have k:ab [v] w5 (w5.setCell ⟨v,0,none⟩ (.slice h5.ao m h5.cap)):=(ab.refl _ _).setCell (Or.inl (by simp)) _;subst hm;exact⟨by rw[ah d5];rfl,o.moved (fun q hq=>k.block q (o.lt hq) (by simp;intro e;exact far5 (by rw[<-e];exact hq))),far5,hl⟩
theorem fH.wrote{W:World}{v g k:Nat}{fs:Fs}{h:Hd}{on:Bool}{p2 p3 p4:Value}(a:fH W v fs h on p2 p3 p4)(hg:h.ao=some ⟨g,0,none⟩)(hk:k<fs.length)(n d:ByteArray):fH ((W.setCell ⟨g,k*2,none⟩ (.string n)).setCell ⟨g,k*2+1,none⟩ (.string d)).drew v (fs.set k (n,d)) h on p2 p3 p4:=by
 have hb:h.blk=some g:=by unfold Hd.blk;rw[hg];rfl
 have kk:ab [g] W ((W.setCell ⟨g,k*2,none⟩ (.string n)).setCell ⟨g,k*2+1,none⟩ (.string d)).drew:=(((ab.refl _ _).setCell (Or.inl (by simp)) _).setCell (Or.inl (by simp)) _).drew
 have o2:aA ((W.setCell ⟨g,k*2,none⟩ (.string n)).setCell ⟨g,k*2+1,none⟩ (.string d)) h (b8 (fs.set k (n,d))):=by
  have:=(a.own.putAt hg (k*2) (.string n)).putAt hg (k*2+1) (.string d)
  have e:(⟨(b8 fs).e,(b8 fs).size,(b8 fs).n,((b8 fs).xs.set (k*2) (.string n)).set (k*2+1) (.string d)⟩:dK)=b8 (fs.set k (n,d)):=by
   simp only[b8,List.length_set];rw[Cs fs k n d hk]
  rw[e]at this;exact this
 refine⟨?_,o2.still (ab.refl [] _).drew,a.far,by rw[List.length_set];exact a.le⟩;rw[List.length_set];exact kk.get a.d (by simp;intro e;exact a.far (by rw[hb,e]))
set_option maxRecDepth 100000 in
theorem EF(v:Nat)(fs:Fs)(h:Hd)(on:Bool)(p2 p3 p4:Value)(n d:ByteArray)(w:World)(hR:fH w v fs h on p2 p3 p4)(hn:n.size<=1073741824)(hd:d.size<=4294967296) :
  Calls Tryz.prog 15 #[.pointer (some ⟨v,0,none⟩),.string n,.string d] w fun e w'=>Le w v fs h n d p2 p3 p4 e w':=by
 have HF:Hid (Calls Tryz.prog 34 #[.string n,.string d] w fun e w'=>e=.returned (.int .i64 (cn n d))/\w'=w):=yn n d w hn hd
 cases hc:(cn n d==0)
 ·have HE:Hid (gq fs n d=(cn n d,fs)):=by show _=_;unfold gq;rw[if_pos (by simpa using hc)]
  have HR:=(show Hid _ from hR);generalize cn n d=c at *;go_enter Tryz.func15,Tryz.ntmps15;go_wp2_with (go_at_call 34;refine Calls.mono HF.out ?_;rintro e w1 ⟨rfl,hw1⟩;rw[hw1];clear hw1);go_ret;exact⟨by rw[HE.out];rfl,h,on,by rw[HE.out];exact HR.out,qA.refl _ _ _⟩
 ·have hc0:cn n d=0:=by simpa using hc
  rw[hc0]at HF;obtain⟨W,HW⟩:∃W,Hid (w.alloc (.cells #[.string n,.string d] 68)=W):=⟨_,rfl⟩
  have kW:ab [] w W:=by rw[<-HW.out];exact(ab.refl [] _).alloc _
  have BW:W.heap[w.heap.size]?=some (.cells #[.string n,.string d] 68 (0,0)):=by rw[<-HW.out];exact heap_alloc_new _ _
  have hRW:=hR.still kW;have HRW:=(show Hid _ from hRW);have c0:W.cell? ⟨v,0,none⟩=some (.slice h.ao fs.length h.cap):=by rw[aa hRW.d];rfl
  have c1:W.cell? ⟨v,1,none⟩=some (.bool on):=by rw[aa hRW.d];rfl
  have f0:=ak hRW.d 0;have f1:=ak hRW.d 1;have z0:=ae hRW.d;have b0:W.cell? ⟨w.heap.size,0,none⟩=some (.string n):=by rw[aa BW];rfl
  have b1:W.cell? ⟨w.heap.size,1,none⟩=some (.string d):=by rw[aa BW];rfl
  have zb:=ae BW;have HKW:=(show Hid _ from kW);have hle:=hR.le;have HFN:=(show Hid _ from kY fs h.ao h.cap n W (by omega) hRW.own.srcFi);clear hRW hR kW BW hc;obtain⟨m,Hm⟩:∃m,Hid (fs.length=m):=⟨_,rfl⟩
  rw[Hm.out]at c0 HFN hle
  rcases nQ n fs with hf | ⟨k,hk,hf⟩
  ·rw[hf]at HFN
   by_cases hl:m=4
   ·have HE:Hid (gq fs n d=(1,fs)):=by show _=_;unfold gq;rw[if_neg (by simpa using hc0),hf,if_neg (by omega),if_pos (by rw[Hm.out];omega)]
    subst hl;clear hf hc0;go_enter Tryz.func15,Tryz.ntmps15
    go_upto_region 5 with (go_at_call 34;refine Calls.mono HF.out ?_;rintro e w1 ⟨rfl,hw1⟩;rw[hw1];clear hw1)
    rw[HW.out];go_wp2_with (go_at_call 35;refine Calls.mono HFN.out ?_;rintro e w1 ⟨rfl,hw1⟩;rw[hw1];clear hw1);go_ret;exact⟨by rw[HE.out];rfl,h,on,by rw[HE.out];exact HRW.out,qA.of (bh.still HKW.out)⟩
   ·have HE:Hid (gq fs n d=(0,fs++[(n,d)])):=by show _=_;unfold gq;rw[if_neg (by simpa using hc0),hf,if_neg (by omega),if_neg (by rw[Hm.out];omega)]
    have hli:((m:Int)==4)=false:=by simp;omega
    have HL0:Hid ((b8 fs).n=m):=Hm.out;clear hf hc0;obtain⟨i0,hi,hz0,hz1,hz2⟩:=info_parts xO;have hD:Hid (fH (W.alloc (.cells #[.string n,.string d] 68)).drew v fs h on p2 p3 p4):=HRW.out.still ((ab.refl [] W).alloc _).drew
    have s2:Hid (∀j u,([.string n,.string d]:List Value)[j]?=some u->(W.alloc (.cells #[.string n,.string d] 68)).drew.cell? ((⟨W.heap.size,0,none⟩:Addr).add j)=some u):=by
     intro j u hj;rw[bK];have hk:(W.alloc (.cells #[.string n,.string d] 68)).drew.heap[W.heap.size]?=some (.cells #[.string n,.string d] 68 (0,0)):=heap_alloc_new _ _;rw[aa hk];simpa using hj
    have s3:Hid (∀u∈([.string n,.string d]:List Value),u.oneCell'=true):=by intro u hu;simp only[List.mem_cons,List.not_mem_nil,or_false]at hu;rcases hu with rfl | rfl <;> rfl
    have s4:Hid ((b8 fs).n+1<=maxLen):=by show _<=_;rw[HL0.out];unfold maxLen;omega
    have s5:Hid (((b8 fs).n+1)*32<=140737488355328):=by show _<=_;rw[HL0.out];omega
    go_enter Tryz.func15,Tryz.ntmps15
    go_upto_region 5 with (go_at_call 34;refine Calls.mono HF.out ?_;rintro e w1 ⟨rfl,hw1⟩;rw[hw1];clear hw1)
    rw[HW.out]
    go_upto_region 9 with (go_at_call 35;refine Calls.mono HFN.out ?_;rintro e w1 ⟨rfl,hw1⟩;rw[hw1];clear hw1)
    go_region_law (refine cd rfl (.tmp 41) (.tmp 43) 33 rfl i0 (.agg #[.string ⟨#[]⟩,.string ⟨#[]⟩]) 32 h (b8 fs) Tryz.underlying33 hi hz0 hz1 hz2 rfl (show 0<2 by omega) (by rw[HL0.out];simp[Act.eval]) hD.out.own ⟨W.heap.size,0,none⟩ 1 1 [.string n,.string d] (by simp[Act.eval]) rfl s2.out s3.out Nat.one_pos s4.out s5.out ?_;intro g5 cap5 w5 hw5 hgr5 hf5;have G5:=(show Hid (bh W w5 h ⟨some ⟨g5,0,none⟩,cap5⟩) from(bh.still ((ab.refl [] W).alloc _).drew).trans (bh.made hgr5 (by simpa using hf5)));have d5:=G5.out.kept.get HRW.out.d (fun hq=>HRW.out.far (aK hq));have e5:=ak d5 0;have e6:w5.cell? ⟨v,0,none⟩=some (.slice h.ao m h.cap):=(by rw[aa d5,<-Hm.out];rfl);have z5:=ae d5)
    all_goals
     have hw6:aA w5 ⟨some ⟨g5,0,none⟩,cap5⟩ (b8 (fs++[(n,d)])):=by rw[<-uD];exact hw5
     have HA:=(show Hid _ from HRW.out.grown (m:=(b8 fs).n+1) G5.out hw6 (by simp;rw[Hm.out];omega) (by simp[b8]));obtain⟨X,HX⟩:∃X,Hid (w5.setCell ⟨v,0,none⟩ (.slice (some ⟨g5,0,none⟩) ((b8 fs).n+1) cap5)=X):=⟨_,rfl⟩
     have HRX:=(show Hid (qA w X v h ⟨some ⟨g5,0,none⟩,cap5⟩) by rw[<-HX.out];exact((qA.of (bh.still HKW.out)).trans (qA.of G5.out)).set 0 _);rw[HX.out]at HA ⊢;have x1:=ak HA.out.d 1;have x2:X.cell? ⟨v,1,none⟩=some (.bool on):=by rw[aa HA.out.d];rfl
     have x3:=ae HA.out.d;clear hw5 hgr5 hf5 d5 e5 e6 z5 hw6 c0 c1 f0 f1 HX;go_wp2;go_ret;exact⟨by rw[HE.out];rfl,_,false,by rw[HE.out];exact HA.out.off,HRX.out.set 1 _⟩
  ·have HE:Hid (gq fs n d=(0,fs.set k (n,d))):=by show _=_;unfold gq;rw[if_neg (by simpa using hc0),hf,if_pos (by omega),Int.toNat_natCast]
   rw[hf]at HFN;obtain⟨g,eg,hgW,hgc⟩:=od HRW.out.own (show 0<fs.length by omega);obtain⟨g',e2,-,q0,q1⟩:=HRW.out.own.srcFi.2 k hk;rw[eg]at e2
   cases e2
   have HA:=(show Hid _ from HRW.out.wrote eg hk n d);have hki:(k:Int)<(m:Int):=by rw[Hm.out]at hk;omega
   have hk0:(0:Int)<=(k:Int):=by omega
   have hkl:¬(k:Int)<0:=by omega
   have u0:W.frozen? ⟨g,k*2,none⟩=false/\W.frozen? ⟨g,k*2+1,none⟩=false:=by
    rcases HRW.out.own.ways with ⟨e,-,-⟩ | ⟨g2,cur,e1,e2,-⟩
    ·rw[e]at eg;cases eg
    ·rw[eg]at e1;cases e1
     exact⟨ak e2 _,ak e2 _⟩
   obtain⟨u0,u1⟩:=u0
   have HRX:Hid (qA w ((W.setCell ⟨g,k*2,none⟩ (.string n)).setCell ⟨g,k*2+1,none⟩ (.string d)).drew v h h):=by
    have hb:h.blk=some g:=by unfold Hd.blk;rw[eg];rfl
    have:=HKW.out.mono (S':=v :: h.blk.toList) (by simp);exact⟨((this.setCell (Or.inl (by rw[hb];simp)) _).setCell (Or.inl (by rw[hb];simp)) _).drew,Or.inl rfl⟩
   rw[eg]at c0 HFN;clear hf hc0;go_enter Tryz.func15,Tryz.ntmps15
   go_upto_region 5 with (go_at_call 34;refine Calls.mono HF.out ?_;rintro e w1 ⟨rfl,hw1⟩;rw[hw1];clear hw1)
   rw[HW.out]
   go_upto_region 10 with (go_at_call 35;refine Calls.mono HFN.out ?_;rintro e w1 ⟨rfl,hw1⟩;rw[hw1];clear hw1)
   go_region
   obtain⟨X,HX⟩:∃X,Hid (((W.setCell ⟨g,k*2,none⟩ (.string n)).setCell ⟨g,k*2+1,none⟩ (.string d)).drew=X):=⟨_,rfl⟩
   rw[HX.out]at HA HRX ⊢;have x1:=ak HA.out.d 1;have x2:X.cell? ⟨v,1,none⟩=some (.bool on):=by rw[aa HA.out.d];rfl
   have x3:=ae HA.out.d;clear c0 c1 f0 f1 HX q0 q1 u0 u1;go_wp2;go_ret;exact⟨by rw[HE.out];rfl,_,false,by rw[HE.out];exact HA.out.off,HRX.out.set 1 _⟩
end Go.Proofs.YtpddjjabfbfifaaGreat
