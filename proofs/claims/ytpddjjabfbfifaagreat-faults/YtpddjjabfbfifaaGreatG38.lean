import Derived.Test.YtpddjjabfbfifaaGreatG09
import Derived.Test.YtpddjjabfbfifaaGreatG37
namespace Go.Proofs.YtpddjjabfbfifaaGreat
open Go.RowKit
set_option maxHeartbeats 40000000
section
variable (rec:Nat->List Bool->List Tk->List Tk×List Bool) (fs:Fs)
theorem CT(t:Tk)(r:List Tk)(sn:List Bool)(out:List Tk)(h:((t.rule==0)&&(t.s.toList == []))=true):b9 rec fs (t :: r) sn out=((if cI out=true then out else out++[oK t 7]),sn):=by
 rw[b9.eq_def];exact if_pos h
theorem um(t:Tk)(r:List Tk)(sn:List Bool)(out:List Tk)(h:((t.rule==0)&&(t.s.toList == []))=false)(h2:(t.s.toList == [36,91])=false):b9 rec fs (t :: r) sn out=b9 rec fs r sn (out++[t]):=by
 rw[b9.eq_def];simp only;rw[if_neg (by rw[h];simp),if_pos h2]
theorem GU(t:Tk)(r:List Tk)(sn:List Bool)(out:List Tk)(h:((t.rule==0)&&(t.s.toList == []))=false)(h2:(t.s.toList == [36,91])=true)(h3:cI out=false):b9 rec fs (t :: r) sn out=(out++[oK t 4],sn):=by
 rw[b9.eq_def];simp only;rw[if_neg (by rw[h];simp),if_neg (by rw[h2];simp),if_pos h3]
theorem CU(t a:Tk)(sn:List Bool)(out:List Tk)(h:((t.rule==0)&&(t.s.toList == []))=false)(h2:(t.s.toList == [36,91])=true)(h3:cI out=true):b9 rec fs [t,a] sn out=(out++[oK a (cN fs a.s a.rule)],sn):=by
 rw[b9.eq_def];simp only;rw[if_neg (by rw[h];simp),if_neg (by rw[h2];simp),if_neg (by rw[h3];simp)]
theorem CV(t a b:Tk)(r:List Tk)(sn:List Bool)(out:List Tk)(h:((t.rule==0)&&(t.s.toList == []))=false)(h2:(t.s.toList == [36,91])=true)(h3:cI out=true):b9 rec fs (t :: a :: b :: r) sn out =
  if(cN fs a.s a.rule==0)=false then(out++[oK a (cN fs a.s a.rule)],sn)
  else if(dh b.s b.rule==0)=false then(out++[oK b (dh b.s b.rule)],sn)
  else if sn.getD (bu fs a.s).toNat true=true then b9 rec fs r sn out
  else if dJ (rec (bu fs a.s).toNat sn out).1=true then rec (bu fs a.s).toNat sn out
  else b9 rec fs r (rec (bu fs a.s).toNat sn out).2 (rec (bu fs a.s).toNat sn out).1:=by
 rw[b9.eq_def];simp only;rw[if_neg (by rw[h];simp),if_neg (by rw[h2];simp),if_neg (by rw[h3];simp)]
theorem xx(hrec:∀j sn out,∃V,(rec j sn out).1=out++V)(n:Nat):∀L,L.length<=n->∀sn out,∃V,(b9 rec fs L sn out).1=out++V:=by
 induction n with
 | zero =>
  intro L hL sn out;have:L=[]:=List.eq_nil_of_length_eq_zero (by omega);subst this;exact⟨[],by rw[b9.eq_def];simp⟩
 | succ n ih =>
  intro L hL sn out
  cases L with
  | nil=>exact⟨[],by rw[b9.eq_def];simp⟩
  | cons t r =>
   simp only[List.length_cons]at hL
   cases h:((t.rule==0)&&(t.s.toList == []))
   ·cases h2:(t.s.toList == [36,91])
    ·rw[um rec fs t r sn out h h2]
     obtain⟨V,hV⟩:=ih r (by omega) sn (out++[t]);exact⟨t :: V,by rw[hV];simp⟩
    ·cases h3:cI out
     ·rw[GU rec fs t r sn out h h2 h3];exact⟨_,rfl⟩
     ·match r,hL with
      | [],_ =>
       refine⟨[],?_⟩;rw[b9.eq_def];simp only;rw[if_neg (by rw[h];simp),if_neg (by rw[h2];simp),if_neg (by rw[h3];simp)];simp
      | [a],_=>rw[CU rec fs t a sn out h h2 h3];exact⟨_,rfl⟩
      | a :: b :: r',hL =>
       simp only[List.length_cons]at hL;rw[CV rec fs t a b r' sn out h h2 h3]
       split
       ·exact⟨_,rfl⟩
       ·split
        ·exact⟨_,rfl⟩
        ·split
         ·exact ih r' (by omega) sn out
         ·obtain⟨V,hV⟩:=hrec (bu fs a.s).toNat sn out
          split
          ·exact⟨V,hV⟩
          ·obtain⟨V2,hV2⟩:=ih r' (by omega) (rec (bu fs a.s).toNat sn out).2 (rec (bu fs a.s).toNat sn out).1
           exact⟨V++V2,by rw[hV2,hV];simp⟩
   ·rw[CT rec fs t r sn out h]
    simp only
    split
    ·exact⟨[],by simp⟩
    ·exact⟨_,rfl⟩
end
theorem qZ(fs:Fs)(n:Nat):∀j sn out,∃V,(dy fs n j sn out).1=out++V:=by
 induction n with
 | zero=>intro j sn out;exact⟨[],by simp[dy]⟩
 | succ n ih=>intro j sn out;rw[dy];exact xx (dy fs n) fs ih _ _ (Nat.le_refl _) _ _
def Iz(L:List Tk):Prop:=∀t∈L,t.rule=0
def Kc(t:Tk):Pl:=⟨t.file,t.line,t.col⟩
structure KZ(fs:Fs)(bg sn:List Bool):Prop where
 b:bg.length=4
 s:sn.length=fs.length
 e:∀j,j<fs.length->bg.getD j true=sn.getD j true
theorem KZ.set{fs:Fs}{bg sn:List Bool}(h:KZ fs bg sn)(hfl:fs.length<=4)(k:Nat)(hk:k<fs.length):KZ fs (bg.set k true) (sn.set k true):=by
 refine⟨by rw[List.length_set];exact h.b,by rw[List.length_set];exact h.s,fun j hj=>?_⟩;have:=h.b;have:=h.s;rw[List.getD_eq_getElem?_getD,List.getD_eq_getElem?_getD,List.getElem?_set,List.getElem?_set]
 by_cases e:k=j
 ·rw[if_pos e,if_pos e,if_pos (by omega),if_pos (by omega)]
 ·rw[if_neg e,if_neg e]
  have:=h.e j hj;rw[List.getD_eq_getElem?_getD,List.getD_eq_getElem?_getD]at this;exact this
inductive RelR (fs:Fs) (N:Nat) (res:Fy) (R:List Tk×List Bool):Prop
 | good:res.1=cJ->si R.1 res.2.2->Iz R.1->KZ fs res.2.1 R.2->R.1.length+1025*aO R.2<=N->RelR fs N res R
 | ends (W:List Tk) (u:Tk) (d:Db):R.1=W++[u]->(u.rule==0)=false->si W d->Iz W->res.1=(u.rule,Kc u)->RelR fs N res R
 | rule (W:List Tk) (t:Tk) (V:List Tk) (d:Db) (r:Int):R.1=W++t :: V->t.rule=0->si W d->W.length+1<=N->aZ (W++[t]) (LS (W++[t])) W.length=r->(r==0)=false->res.1=(r,Kc t)->RelR fs N res R
theorem vy{L:List Tk}(h:Iz L):dJ L=false:=by
 unfold dJ
 cases e:L.getLast? with
 | none=>rfl
 | some t =>
  have:=h t (List.mem_of_getLast? e);simp[this]
theorem qV(d:ByteArray)(k:Nat)(hk:k<=d.size):(aG (av d k).1=true->((av d k).1.text.toList == [])=false/\(av d k).1.rule=0)/\(aG (av d k).1=false->(av d k).1.text=⟨#[]⟩/\((av d k).1.fin=true->(av d k).1.rule=0)):=by
 have com:∀f k,k<=d.size->aG (bP d f k).1=false->(bP d f k).1.text=⟨#[]⟩/\((bP d f k).1.fin=true->(bP d f k).1.rule=0):=by
  intro f
  induction f with
  | zero=>intro k _ _;exact⟨rfl,fun h=>by cases h⟩
  | succ f ih =>
   intro k hk h;have hl:=fw d k hk;rw[bP]at h ⊢
   split
   ·next h1 =>
    rw[if_pos h1]at h
    split
    ·exact⟨rfl,fun h=>by cases h⟩
    ·next h2 =>
     rw[if_neg h2]at h;exact ih _ hl.2.1 h
   ·next h1 =>
    rw[if_neg h1]at h
    split
    ·exact⟨rfl,fun h=>by cases h⟩
    ·next h2 =>
     rw[if_neg h2]at h;exact(qq d k hk).2 h
 unfold av
 suffices hs:∀f k,k<=d.size->(aG (dg d f k).1=true->((dg d f k).1.text.toList == [])=false/\(dg d f k).1.rule=0)/\(aG (dg d f k).1=false->(dg d f k).1.text=⟨#[]⟩/\((dg d f k).1.fin=true->(dg d f k).1.rule=0)) from hs _ _ hk
 clear hk k;intro f
 induction f with
 | zero=>intro k hk;exact⟨fun h=>by simp[dg,aG]at h,fun _=>⟨rfl,fun _=>rfl⟩⟩
 | succ f ih =>
  intro k hk;have hl:=fw d k hk;have hc:=hQ d (bi d k).2 hl.2.1;rw[dg]
  split
  ·split
   ·exact ih _ hc.2
   ·next h2 =>
    refine⟨fun h=>absurd h h2,fun h=>?_⟩;exact com _ _ hl.2.1 h
  ·exact qq d k hk
theorem Eb(fs:Fs)(s:ByteArray)(r:Int)(h:(r==0)=false):cN fs s r=r:=by unfold cN;exact if_pos h
theorem Ec(fs:Fs)(s:ByteArray)(r:Int)(h:r=0)(hs:s=⟨#[]⟩):cN fs s r=7:=by
 subst h hs;unfold cN;rw[if_neg (by simp),if_pos mM]
theorem A9(fs:Fs)(s:ByteArray)(r:Int)(h:r=0)(hs:(s.toList == [])=false):cN fs s r=if dw s=true then 5 else if bu fs s<0 then 6 else 0:=by
 subst h;unfold cN;rw[if_neg (by simp),if_neg (by rw[hs];simp),hU]
theorem Ap(s:ByteArray)(r:Int)(h:(r==0)=false):dh s r=r:=by unfold dh;exact if_pos h
theorem Aq(s:ByteArray)(r:Int)(h:r=0)(hs:s=⟨#[]⟩):dh s r=7:=by
 subst h hs;unfold dh;rw[if_neg (by simp),if_pos mM]
theorem yk(s:ByteArray)(r:Int)(h:r=0)(hs:(s.toList == [])=false):dh s r=if(s.toList == [36,93])=false then 5 else 0:=by
 subst h;unfold dh;rw[if_neg (by simp),if_neg (by rw[hs];simp)]
theorem GY(fs:Fs)(hfl:fs.length<=4)(hsz:∀j,j<fs.length->(aj fs j).size<=1024)(f:Nat):∀n x k bg sn d out N,x<fs.length->k<=(aj fs x).size->KZ fs bg sn->aO sn<=n ->
  ((aj fs x).size-k+1)+1025*aO sn<=f->si out d->Iz out->out.length+((aj fs x).size-k+1)+1025*aO sn<=N->N<=100000 ->
  RelR fs N (aX fs f x k bg d) (b9 (dy fs n) fs (kB (aC fs x) (aj fs x) k) sn out):=by
 induction f with
 | zero=>intro n x k bg sn d out N _ _ _ _ h;omega
 | succ f ih =>
  intro n x k bg sn d out N hx hk hS hn hf hG hA hN hN2;have hl:=eN (aj fs x) k hk;obtain⟨t1,t2⟩:=qV (aj fs x) k hk;have hop:=hG.open
  cases hw:aG (av (aj fs x) k).1
  ·-- the file ends,or a word's stead is taken
   obtain⟨x1,x2⟩:=t2 hw;rw[iZ _ _ k hw]
   cases hfn:(av (aj fs x) k).1.fin
   ·have hr:((av (aj fs x) k).1.rule==0)=false:=jd hw hfn
    have e1:((ka (aC fs x) (aj fs x) (av (aj fs x) k).1).rule==0&&((ka (aC fs x) (aj fs x) (av (aj fs x) k).1).s.toList == []))=false:=by simp only[ka];rw[hr];rfl
    have e2:((ka (aC fs x) (aj fs x) (av (aj fs x) k).1).s.toList == [36,91])=false:=by simp only[ka];rw[x1];decide +kernel
    rw[um _ _ _ _ _ _ e1 e2,tP fs f x k bg d hw (by rw[hfn];simp)];refine RelR.ends out _ d (by rw[b9.eq_def]) hr hG hA ?_;simp[gF,hfn,ka,Kc,jx]
   ·have e1:((ka (aC fs x) (aj fs x) (av (aj fs x) k).1).rule==0&&((ka (aC fs x) (aj fs x) (av (aj fs x) k).1).s.toList == []))=true:=by simp only[ka];rw[x1,x2 hfn,mM];rfl
    rw[CT _ _ _ _ _ _ e1]
    cases hb:cI out
    ·rw[hb]at hop
     rw[tP fs f x k bg d hw (by rw[hop];simp)];refine RelR.ends out (oK (ka (aC fs x) (aj fs x) (av (aj fs x) k).1) 7) d (by simp) rfl hG hA ?_;simp[gF,hfn,ka,Kc,jx,oK]
    ·rw[hb]at hop
     rw[xa fs f x k bg d hw hfn hop];exact RelR.good rfl (by simp only[if_true];exact hG) (by simp only[if_true];exact hA) hS (by simp only[if_true];omega)
  ·have hl2:=hl.2.2 hw
   obtain⟨x1,x2⟩:=t1 hw;rw[i6 _ _ k hk hw];have e1:((ka (aC fs x) (aj fs x) (av (aj fs x) k).1).rule==0&&((ka (aC fs x) (aj fs x) (av (aj fs x) k).1).s.toList == []))=false:=by simp only[ka];rw[x1];simp
   cases hi:((av (aj fs x) k).1.text.toList == [36,91])
   ·-- a word is taken
    rw[um _ _ _ _ _ _ e1 (by exact hi)]
    have es:fe fs f x k bg d=((if((aV d (av (aj fs x) k).1.text (jx (aC fs x) (aj fs x) (av (aj fs x) k).1.pos)).1==0)=true then cJ else((aV d (av (aj fs x) k).1.text (jx (aC fs x) (aj fs x) (av (aj fs x) k).1.pos)).1,jx (aC fs x) (aj fs x) (av (aj fs x) k).1.pos),bg,(aV d (av (aj fs x) k).1.text (jx (aC fs x) (aj fs x) (av (aj fs x) k).1.pos)).2),(av (aj fs x) k).2):=by
     unfold fe iO;rw[hi];simp
    obtain⟨g1,g2⟩:=hG.step (t:=ka (aC fs x) (aj fs x) (av (aj fs x) k).1) (by omega) x1 (jx (aC fs x) (aj fs x) (av (aj fs x) k).1.pos);have e3:(ka (aC fs x) (aj fs x) (av (aj fs x) k).1).s=(av (aj fs x) k).1.text:=rfl;rw[e3]at g1 g2
    cases h2:((aV d (av (aj fs x) k).1.text (jx (aC fs x) (aj fs x) (av (aj fs x) k).1.pos)).1==0)
    ·rw[mC fs f x k bg d hw (by rw[es,h2];simpa using h2),es,h2]
     obtain⟨V,hV⟩:=xx (dy fs n) fs (qZ fs n) _ _ (Nat.le_refl _) sn (out++[ka (aC fs x) (aj fs x) (av (aj fs x) k).1]);exact RelR.rule out (ka (aC fs x) (aj fs x) (av (aj fs x) k).1) V d _ (by rw[hV];simp) x2 hG (by omega) g1 h2 (by simp[ka,Kc,jx])
    ·rw[vO fs f x k bg d hw (by rw[es,h2];rfl),es]
     refine ih n x _ bg sn _ _ N hx hl.2.1 hS hn (by omega) (g2 (by simpa using h2)) ?_ (by simp;omega) hN2;intro u hu
     rcases List.mem_append.1 hu with hu | hu
     ·exact hA u hu
     ·rw[List.mem_singleton.1 hu];exact x2
   ·-- an inclusion
    have es:fe fs f x k bg d=lC (b7 fs f) fs x (av (aj fs x) k).2 (jx (aC fs x) (aj fs x) (av (aj fs x) k).1.pos) bg d:=by
     unfold fe iO;rw[hi,if_pos rfl]
    have stop:∀(W:List Tk) (u:Tk) (fl:oG),ph fs x (av (aj fs x) k).2 (jx (aC fs x) (aj fs x) (av (aj fs x) k).1.pos) d=.inl fl->fl=(u.rule,Kc u)->(u.rule==0)=false->RelR fs N (aX fs (f+1) x k bg d) (out++[u],sn):=fun W u fl hfl2 e h0=>by
     have e2:lC (b7 fs f) fs x (av (aj fs x) k).2 (jx (aC fs x) (aj fs x) (av (aj fs x) k).1.pos) bg d=((fl,bg,d),(av (aj fs x) k).2):=by
      unfold lC;rw[hfl2]
     rw[mC fs f x k bg d hw (by rw[es,e2,e];exact h0),es,e2];exact RelR.ends out u d rfl h0 hG hA e
    cases hb:cI out
    ·rw[hb]at hop
     rw[GU _ _ _ _ _ _ e1 (by exact hi) hb];exact stop out (oK (ka (aC fs x) (aj fs x) (av (aj fs x) k).1) 4) _ (by unfold ph;rw[if_pos (by rw[hop];rfl)];rfl) rfl rfl
    ·rw[hb]at hop
     have hop':¬je d=true:=by rw[hop];simp
     obtain⟨z,hz⟩:∃z,z=(av (aj fs x) k).2:=⟨_,rfl⟩
     rw[<-hz]at hl hl2 es stop ⊢;have ha:=eN (aj fs x) z hl.2.1;obtain⟨a1,a2⟩:=qV (aj fs x) z hl.2.1
     cases hwa:aG (av (aj fs x) z).1
     ·obtain⟨y1,y2⟩:=a2 hwa
      rw[iZ _ _ z hwa,CU _ _ _ _ _ _ e1 (by exact hi) hb]
      have hnm:cN fs (ka (aC fs x) (aj fs x) (av (aj fs x) z).1).s (ka (aC fs x) (aj fs x) (av (aj fs x) z).1).rule=if(av (aj fs x) z).1.fin=true then 7 else(av (aj fs x) z).1.rule:=by
       cases hfa:(av (aj fs x) z).1.fin
       ·exact Eb fs _ _ (jd hwa hfa)
       ·exact Ec fs _ _ (y2 hfa) y1
      refine stop out _ _ (by unfold ph;rw[if_neg hop',if_pos hwa]) (by simp only[gF,oK,Kc];rw[hnm];rfl) ?_;simp only[oK];rw[hnm]
      cases hfa:(av (aj fs x) z).1.fin
      ·exact jd hwa hfa
      ·rfl
     ·have ha2:=ha.2.2 hwa
      obtain⟨y1,y2⟩:=a1 hwa;obtain⟨z2,hz2⟩:∃z2,z2=(av (aj fs x) z).2:=⟨_,rfl⟩
      rw[i6 _ _ z hl.2.1 hwa,<-hz2];rw[<-hz2]at ha ha2;have hbl:=eN (aj fs x) z2 ha.2.1;obtain⟨b1,b2⟩:=qV (aj fs x) z2 ha.2.1
      obtain⟨tl,htl⟩:∃tl,kB (aC fs x) (aj fs x) z2=ka (aC fs x) (aj fs x) (av (aj fs x) z2).1 :: tl:=by
       cases hwb:aG (av (aj fs x) z2).1
       ·exact⟨[],iZ _ _ z2 hwb⟩
       ·exact⟨_,i6 _ _ z2 ha.2.1 hwb⟩
      rw[htl,CV _ _ _ _ _ _ _ _ e1 (by exact hi) hb]
      have hnm:cN fs (ka (aC fs x) (aj fs x) (av (aj fs x) z).1).s (ka (aC fs x) (aj fs x) (av (aj fs x) z).1).rule=if dw (av (aj fs x) z).1.text=true then 5 else if bu fs (av (aj fs x) z).1.text<0 then 6 else 0:=by
       exact A9 fs _ _ y2 y1
      rw[hnm];have hes:(ka (aC fs x) (aj fs x) (av (aj fs x) z).1).s=(av (aj fs x) z).1.text:=rfl;rw[hes]
      cases hdl:dw (av (aj fs x) z).1.text
      ·by_cases hfd:bu fs (av (aj fs x) z).1.text<0
       ·simp only[Bool.false_eq_true,if_false,if_pos hfd]
        rw[if_pos (show((6:Int)==0)=false from rfl)];exact stop out _ _ (by unfold ph;rw[if_neg hop',if_neg (by rw[hwa];simp),if_neg (by rw[hdl];simp),if_pos hfd];rfl) rfl rfl
       ·simp only[Bool.false_eq_true,if_false,if_neg hfd]
        rw[if_neg (show ¬((0:Int)==0)=false by decide)]
        have hcl:dh (ka (aC fs x) (aj fs x) (av (aj fs x) z2).1).s (ka (aC fs x) (aj fs x) (av (aj fs x) z2).1).rule=if aG (av (aj fs x) z2).1=false then(if(av (aj fs x) z2).1.fin=true then 7 else(av (aj fs x) z2).1.rule) else if((av (aj fs x) z2).1.text.toList == [36,93])=false then 5 else 0:=by
         cases hwb:aG (av (aj fs x) z2).1
         ·obtain⟨y3,y4⟩:=b2 hwb
          rw[if_pos rfl]
          cases hfa:(av (aj fs x) z2).1.fin
          ·exact Ap _ _ (jd hwb hfa)
          ·exact Aq _ _ (y4 hfa) y3
         ·obtain⟨y3,y4⟩:=b1 hwb
          rw[if_neg (by simp)];exact yk _ _ y4 y3
        rw[hcl]
        cases hwb:aG (av (aj fs x) z2).1
        ·rw[if_pos rfl]
         have hne:((if(av (aj fs x) z2).1.fin=true then 7 else(av (aj fs x) z2).1.rule)==0)=false:=by
          cases hfa:(av (aj fs x) z2).1.fin
          ·exact jd hwb hfa
          ·rfl
         rw[if_pos hne];exact stop out _ _ (by unfold ph;rw[if_neg hop',if_neg (by rw[hwa];simp),if_neg (by rw[hdl];simp),if_neg hfd,<-hz2,if_pos hwb];rfl) rfl hne
        ·simp only[Bool.true_eq_false,if_false]
         cases hcb:((av (aj fs x) z2).1.text.toList == [36,93])
         ·rw[if_pos rfl,if_pos (show((5:Int)==0)=false from rfl)]
          exact stop out _ _ (by unfold ph;rw[if_neg hop',if_neg (by rw[hwa];simp),if_neg (by rw[hdl];simp),if_neg hfd,<-hz2,if_neg (by rw[hwb];simp),if_pos hcb];rfl) rfl rfl
         ·simp only[Bool.true_eq_false,if_false]
          rw[if_neg (show ¬((0:Int)==0)=false by decide)]
          -- the file is named
          have hb2:=hbl.2.2 hwb
          have etl:tl=kB (aC fs x) (aj fs x) (av (aj fs x) z2).2:=by
           rw[i6 _ _ z2 ha.2.1 hwb]at htl;exact(List.cons.inj htl).2.symm
          rw[etl];obtain⟨j,hj⟩:∃j,j=(bu fs (av (aj fs x) z).1.text).toNat:=⟨_,rfl⟩
          have hjl:j<fs.length:=by
           rcases nE (av (aj fs x) z).1.text fs with h | ⟨q,hq,h⟩
           ·rw[h]at hfd;omega
           ·rw[hj,h,Int.toNat_natCast];exact hq
          rw[<-hj]
          have einc:fe fs f x k bg d=(b7 fs f j bg d,(av (aj fs x) z2).2):=by
           rw[es];unfold lC ph;rw[if_neg hop',if_neg (by rw[hwa];simp),if_neg (by rw[hdl];simp),if_neg hfd,<-hz2,if_neg (by rw[hwb];simp),if_neg (by rw[hcb];simp),<-hj]
          have hsn:=hS.e j hjl
          cases hbj:bg.getD j true
          ·rw[hbj]at hsn
           have hsf:sn[j]?=some false:=by
            have:=hS.s;rw[List.getElem?_eq_getElem (by omega)];rw[List.getD_eq_getElem?_getD,List.getElem?_eq_getElem (by omega)]at hsn;exact congrArg some hsn.symm
           have hun:=j6 sn j hsf;rw[if_neg (by rw[<-hsn];simp)];have efile:b7 fs f j bg d=aX fs f j 0 (bg.set j true) d:=by unfold b7;rw[hbj,if_neg (by simp)]
           obtain⟨m,hm⟩:∃m,n=m+1:=⟨n-1,by omega⟩
           have er:dy fs n j sn out=b9 (dy fs m) fs (kB (aC fs j) (aj fs j) 0) (sn.set j true) out:=by rw[hm,dy,wm]
           have hszj:=hsz j hjl;have R1:=ih m j 0 (bg.set j true) (sn.set j true) d out (out.length+1025*aO sn) hjl (Nat.zero_le _) (hS.set hfl j hjl) (by omega) (by omega) hG hA (by omega) (by omega);rw[<-er,<-efile]at R1;have hpre:=qZ fs n j sn out;generalize dy fs n j sn out=RR at *
           rcases R1 with ⟨r1,r2,r3,r4,r5⟩ | ⟨W,u,d0,r1,r2,r3,r4,r5⟩ | ⟨W,t,V,d0,r,r1,r2,r3,r4,r5,r6,r7⟩
           ·rw[vy r3,if_neg (by simp),vO fs f x k bg d hw (by rw[einc,r1];rfl),einc]
            have hus:aO RR.2<=aO sn:=by
             obtain⟨V,hV⟩:=hpre;rw[hV,List.length_append]at r5;omega
            exact ih n x _ _ RR.2 _ RR.1 N hx hbl.2.1 r4 (by omega) (by simp only;omega) r2 r3 (by simp only;omega) hN2
           ·have hbk:dJ RR.1=true:=by unfold dJ;rw[r1,List.getLast?_concat];simp only;rw[r2];rfl
            rw[hbk,if_pos rfl,mC fs f x k bg d hw (by rw[einc,r5];exact r2),einc];exact RelR.ends W u d0 r1 r2 r3 r4 r5
           ·rw[mC fs f x k bg d hw (by rw[einc,r7];exact r6),einc]
            cases hbk:dJ RR.1
            ·rw[if_neg (by simp)]
             obtain⟨V2,hV2⟩:=xx (dy fs n) fs (qZ fs n) _ (kB (aC fs x) (aj fs x) (av (aj fs x) z2).2) (Nat.le_refl _) RR.2 RR.1;exact RelR.rule W t (V++V2) d0 r (by rw[hV2,r1];simp) r2 r3 (by omega) r5 r6 r7
            ·rw[if_pos rfl]
             exact RelR.rule W t V d0 r r1 r2 r3 (by omega) r5 r6 r7
          ·rw[hbj]at hsn
           have efile:b7 fs f j bg d=(cJ,bg,d):=by unfold b7;rw[hbj,if_pos rfl]
           rw[if_pos hsn.symm,vO fs f x k bg d hw (by rw[einc,efile];rfl),einc,efile];exact ih n x _ bg sn d out N hx hbl.2.1 hS hn (by omega) hG hA (by omega) hN2
      ·simp only[if_true]
       rw[if_pos (show((5:Int)==0)=false from rfl)];exact stop out _ _ (by unfold ph;rw[if_neg hop',if_neg (by rw[hwa];simp),if_pos hdl];rfl) rfl rfl
def Gm(t:Tk):oG:=(t.rule,Kc t)
def gq(fs:Fs)(k:Nat):oG :=
 if((vI (da fs k).1 (LS (da fs k).1)).rule==0)=false then Gm (vI (da fs k).1 (LS (da fs k).1)) else Gm (da fs k).2
theorem CB{W:List Tk}{d:Db}(h:si W d):vI W (LS W)=ic:=JX h.u
theorem yC(fs:Fs)(k:Nat)(hfl:fs.length<=4)(hsz:∀j,j<fs.length->(aj fs j).size<=1024)(hk:k<fs.length) :
  (cO fs k).1=gq fs k/\(((cO fs k).1.1==0)=true->si (da fs k).1 (cO fs k).2.2/\(da fs k).1.length<=10000):=by
 have hS0:KZ fs Cu (List.replicate fs.length false):=⟨rfl,by simp,fun j hj=>by
  rw[List.getD_eq_getElem?_getD,List.getD_eq_getElem?_getD,List.getElem?_replicate,if_pos hj]
  match j,(show j<4 by omega) with
  | 0,_=>rfl
  | 1,_=>rfl
  | 2,_=>rfl
  | 3,_=>rfl⟩
 have hsn:(List.replicate fs.length false)[k]?=some false:=by rw[List.getElem?_replicate,if_pos hk]
 have hun:=j6 _ k hsn;rw[lx]at hun;have hszk:=hsz k hk
 have e1:cO fs k=aX fs 5000 k 0 (Cu.set k true) eF:=by
  unfold cO b7;rw[hS0.e k hk,List.getD_eq_getElem?_getD,hsn];rfl
 have e2:dy fs fs.length k (List.replicate fs.length false) []=b9 (dy fs (fs.length-1)) fs (kB (aC fs k) (aj fs k) 0) ((List.replicate fs.length false).set k true) []:=by
  obtain⟨m,hm⟩:∃m,fs.length=m+1:=⟨fs.length-1,by omega⟩
  have:fs.length-1=m:=by omega
  rw[this]
  conv=>lhs;rw[show dy fs fs.length=dy fs (m+1) by rw[hm]]
  rw[dy,wm]
 have R1:=GY fs hfl hsz 5000 (fs.length-1) k 0 (Cu.set k true) ((List.replicate fs.length false).set k true) eF [] 5000 hk (Nat.zero_le _) (hS0.set hfl k hk) (by omega) (by omega) (Gp rfl) (fun t ht=>by cases ht) (by simp only[List.length_nil];omega) (by omega);rw[<-e1,<-e2]at R1;have ea:(dy fs fs.length k (List.replicate fs.length false) []).1=nr fs k:=rfl;generalize dy fs fs.length k (List.replicate fs.length false) []=RR at *;unfold gq da
 rcases R1 with ⟨r1,r2,r3,r4,r5⟩ | ⟨W,u,d0,r1,r2,r3,r4,r5⟩ | ⟨W,t,V,d0,r,r1,r2,r3,r4,r5,r6,r7⟩
 ·rw[ea]at r2 r3 r5
  simp only[vy r3,Bool.false_eq_true,if_false];rw[CB r2,if_neg (by decide)];exact⟨r1,fun _=>⟨r2,by omega⟩⟩
 ·rw[ea]at r1
  have hbk:dJ (nr fs k)=true:=by unfold dJ;rw[r1,List.getLast?_concat];simp only;rw[r2];rfl
  rw[hbk,if_pos rfl,r1,List.dropLast_concat,List.getLast?_concat];simp only[Option.getD_some];rw[CB r3,if_neg (by decide)];exact⟨r5,fun h=>by rw[r5]at h;simp only at h;rw[r2]at h;cases h⟩
 ·rw[ea]at r1
  obtain⟨V',hV'⟩:∃V',(if dJ (nr fs k)=true then((nr fs k).dropLast,(nr fs k).getLast?.getD ic) else(nr fs k,ic)).1=(W++[t])++V':=by
   cases hbk:dJ (nr fs k)
   ·rw[if_neg (by simp)]
    exact⟨V,by simp only;rw[r1];simp⟩
   ·rw[if_pos rfl]
    cases V with
    | nil =>
     unfold dJ at hbk;rw[r1,List.getLast?_concat]at hbk;simp only[r2]at hbk
     cases hbk
    | cons v V=>exact⟨(v :: V).dropLast,by simp only;rw[r1,List.dropLast_append_of_ne_nil (by simp),List.dropLast_cons_of_ne_nil (by simp)];simp⟩
  rw[hV'];have hu:=pa W (t :: V') (by omega) r3.u;have hb:=tj (W++[t]) V' (by simp;omega) W.length (by simp) (fun j hj=>pa W [t] (by omega) r3.u j hj);rw[r5]at hb
  have hff:=Gf (T:=(W++[t])++V') (S:=LS ((W++[t])++V')) (k:=W.length) (by simp) (by rw[hb];exact r6) (fun j hj=>by
   have:=hu j hj;rw[show W++t :: V'=(W++[t])++V' by simp]at this;exact this)
  have hg:((W++[t])++V').getD W.length ic=t:=by
   rw[List.getD_eq_getElem?_getD,List.append_assoc,List.getElem?_append_right (Nat.le_refl _),Nat.sub_self];simp
  rw[hff,hb,hg];simp only;rw[if_pos r6];exact⟨r7,fun h=>by rw[r7]at h;simp only at h;rw[r6]at h;cases h⟩
end Go.Proofs.YtpddjjabfbfifaaGreat
