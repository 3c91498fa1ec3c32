import Derived.Test.YtnbalopedcgpcaaGreatG46
namespace Go.Proofs.YtnbalopedcgpcaaGreat
open Go.RowKit Tryz
open Value renaming int->Xx,string->Xy,slice->Xz,pointer->XA,agg->XB,bool->XC,tuple->XD
open Obj renaming cells->XE
open IntKind renaming i64->XF
open Ending renaming returned->XH
open World renaming cell?->XI
open Option renaming none->XJ,some->XK
open Bool renaming true->XL,false->XM
open Go.RowKit renaming Hid->XN
open Go renaming Calls->XO,World->XP,Value->XQ
set_option maxHeartbeats 0
section
theorem Ok(w:XP):(binOp .eql 22 (Xz XJ 0 0) (Xz XJ 0 0)).run prog w=.ok (XC XL) w:=by kernel_rfl
attribute [local go_sem] Ok
set_option maxRecDepth 100000
theorem GD(b x gr nr:Nat)(T:ByteArray)(fs:Fs)(Hr:Nat->Hd)(g:Nat)(c:Int)(l:ByteArray)(w:XP)(hW:aR w b x T (XK gr))(hR:fC w x fs (aJ T).2.UD Hr g)(hM:or 0 fs)(hx:x≠b)(hT:dV T)(hc:-9223372036854775808<=c/\c<=9223372036854775807)(cd:XN ((bu T).length=nr)) :
  XO prog 11 #[XA (XK ⟨b,0,XJ⟩),Xx XF c,Xy l] w fun e n=>e=XH (XC XL)/\aa [x] w n:=by
 obtain⟨iS,hf,cz,cF,cW⟩:=Qq ey;have hE:=hR.anyR.lt;have hG:=iB T hT.size hT.inc;have i4:0<nr:=by have:=hW.rows.1;rw[cd.out]at this;exact this
 have l1:nr<=100000:=by rw[<-cd.out];have:=hT.rws.len;omega
 obtain⟨k,fv⟩:∃k,XN (qT c nr=k):=⟨_,rfl⟩
 have hk:k<nr:=by rw[<-fv.out];exact Je c nr i4
 have I:k<(bu T).length:=by rw[cd.out];exact hk
 obtain⟨m,SP⟩:=NN T hT (PJ I);obtain⟨c0,c1,c2⟩:=hW.cells;have bf:=hW.lt;have X:=hW.rows.lt gr rfl;have d0:=(Ag hW.rows.2 (fun j v hj=>by simpa using hj) k I).1;obtain⟨o,c9⟩:∃o,(bu T)[k].label=o:=⟨_,rfl⟩
 have ea:XN (da (aJ T).2.UD o=XK m/\∃fr:nk (aJ T).2.UD m,((aJ T).2.UD[m]'fr.ha).label.toList=o.toList/\fE (aJ T).2.UD m=XL):=by rw[<-c9];exact⟨SP.find,SP.fr,SP.own,SP.at_⟩
 rw[c9]at d0;rw[show eV (XK gr) (bu T).length=Xz (XK ⟨gr,0,XJ⟩) nr nr by rw[cd.out];rfl]at c2;obtain⟨f,HF⟩:∃f,XN (cM (aX (aJ T).2.UD m)=f):=⟨_,rfl⟩
 have ds:XN _:=(LN c nr w hc (by omega));rw[fv.out]at ds;have fi:XN (XO prog 21 #[XA (XK ⟨b,0,XJ⟩),Xy o] w fun e n=>∃F lv es hg E,e=XH (XD #[XA (XK ⟨F,0,XJ⟩),XC XL])/\fQ n F w.heap.size o lv f es hg E/\aa [] w n):=by
  obtain⟨Z,h2,h3,-⟩:=ea.out;have:=Gr b x T fs Hr g o m w c0 bf hT hR Z h2 h3;rw[HF.out]at this;exact this
 have f4:XN (∀a,aa [] w a->XO prog 9 #[XA (XK ⟨x,0,XJ⟩),Xy o,Xy l] a fun e n=>GQ (iC (aJ T).2.UD o l) a e n):=fun a q=>ud x fs _ Hr g _ rfl (Cq hT) o l a (hR.Ur q) hG.ok;have eM:XN (∀a,aa [] w a->XO prog 22 #[XA (XK ⟨b,0,XJ⟩)] a fun e n=>M7 b x T (XK gr) a e n):=fun a q=>Ez b x T (XK gr) fs a (hW.Ur q) (hR.anyR.kept q (by simp)) hM hx hT;have co:XN (∀z O,lx T z->iC (aJ T).2.UD o l (0,O)->Pd T z l f O):=fun z O hz ha=>by
  obtain⟨Z,h2,h3,h4⟩:=ea.out;rw[<-HF.out];exact Mu hT hz h2 h4 Z ha
 have ew:XN (∀a6,iC (aJ T).2.UD o l a6->a6.1≠0->a6.2=[]):=fun a6 hr h0=>by
  obtain⟨Z,-⟩:=ea.out;unfold iC at hr;rw[Z]at hr;simp only at hr;unfold MJ at hr;split at hr
  ·rw[hr]
  ·obtain⟨C,r,-,-,rfl⟩:=hr;unfold uu at h0 ⊢;split
   ·rfl
   ·split
    ·split
     ·rfl
     ·next a1 a2 a3=>rw[PV a1,PZ a2,PV a3]at h0;exact absurd rfl h0
    ·rfl
 have HW:XN _:=hW;have HT:XN _:=hT;have dd:XN (b<w.heap.size/\x<w.heap.size/\gr<w.heap.size):=⟨bf,hE,X⟩;have eh:XN _:=hx;clear hW hR hM hT hG SP c9 I hx;have li:(k:Int)<(nr:Int):=by omega
 have l2:((nr:Int)==0)=XM:=Qi.2 (by omega);go_enter func11,ntmps11;go_upto_region 4 with (go_at_call 20;refine PU ds.out ?_;rintro e2 A ⟨rfl,hA⟩;rw[hA];clear hA)
 go_upto_region 5 with (go_at_call 21;refine PU fi.out ?_;rintro e2 w1 ⟨F,lv,es,hg,E,rfl,b8,k1⟩)
 have bv:XN _:=b8;have K1:XN _:=k1;have hX:XI w1 ⟨b,0,XJ⟩=XK (XA (XK ⟨x,0,XJ⟩)):=(HW.out.Ur k1).cells.1;have iN:=(HW.out.Ur k1).lt;have y0:XI w1 ⟨F,0,XJ⟩=XK (Xy o):=by rw[b8.bag.cell];rfl
 have ip:=b8.bag.lt;have fb:XN (∀a,aa [] w1 a->XI a ⟨b,0,XJ⟩=XK (XA (XK ⟨x,0,XJ⟩))/\XI a ⟨F,0,XJ⟩=XK (Xy o)/\b<a.heap.size/\F<a.heap.size):=fun a q=>⟨(HW.out.Ur (K1.out.trans q)).cells.1,by rw[(bv.out.Ur q).bag.cell];rfl,(HW.out.Ur (K1.out.trans q)).lt,(bv.out.Ur q).bag.lt⟩
 clear b8 k1 c0 c1 c2 d0 bf X hE fi ds;go_upto_region 7 with fail
 go_region_held3 (fun n=>XI n ⟨b,0,XJ⟩=XK (XA (XK ⟨x,0,XJ⟩))/\XI n ⟨F,0,XJ⟩=XK (Xy o)) (go_keep) ((go_at_call 9;refine PU (f4.out _ (by exact K1.out.drew)) ?_;rintro e2 A ⟨a6,cx,bo,rfl,x1,n1,k2⟩;obtain⟨hX,y0,iN,ip⟩:=fb.out _ ((aa.refl [] w1).drew.trans k2)));have K2:XN (aa [] w1 A):=(aa.refl [] w1).drew.trans k2;have N1:XN (∀b,bo=XK b->w1.heap.size<=b):=n1;obtain⟨er,O⟩:=a6;have X1:XN (yd A bo O):=x1;have bc:XN _:=cx;clear k2 n1 x1 f4 fb cx;by_cases h0:(er != 0)=XL
 ·have hn:O=[]:=ew.out _ bc.out (by simpa using h0);obtain rfl:bo=XJ:=X1.out.nil.2 hn;subst hn;have e0:O8 XJ=XJ:=rfl;rw[e0];simp only[List.length_nil];go_wp2;go_ret;exact⟨rfl,((K1.out.trans K2.out).mono (by simp))⟩
 ·have i0:er=0:=by simpa using h0
  subst i0;have hO:XN (iC (aJ T).2.UD o l (0,O)):=bc.out;have cg:XN _:=eM.out A (K1.out.trans K2.out);obtain⟨AO,ex⟩:∃AO,XN (O8 bo=AO):=⟨_,rfl⟩
  rw[ex.out];obtain⟨lw,a8⟩:∃lw,XN (O.length=lw):=⟨_,rfl⟩
  simp only;rw[a8.out];clear bc eM ew;go_wp2_with fail;refine PU cg.out ?_;rintro e2 w4 ⟨⟨k4,W4,V4⟩,iP⟩;have K4:XN _:=k4;have gf:XN _:=V4;clear k4 W4 V4;rcases iP with rfl | ⟨nn,B,H,F2,gg,Pf,lc,kp,⟨ht,hh⟩,rfl,hB,go,-,-,-,j1⟩
  ·go_wp2;go_ret;exact⟨rfl,((K1.out.trans K2.out).mono (by simp)).trans K4.out⟩
  ·have ei:XN _:=Ko T nn ht hh;have P:XN _:=co.out (zF nn) O ei.out hO.out;obtain⟨hy,fm⟩:∃hy,XN ((cM (cP T (zF nn))).hyps=hy):=⟨_,rfl⟩
   rw[fm.out]at hB j1;obtain⟨z,HZ⟩:∃z,XN (zF nn=z):=⟨_,rfl⟩
   rw[HZ.out]at hB ei P;have mc:=ei.out.size;obtain⟨K,rfl⟩:∃K,bo=XK K:=by
    cases bo with
    | none=>have:=X1.out.nil.1 rfl;have:=P.out.labs.1;simp_all
    | some K=>exact⟨K,rfl⟩
   have i1:=N1.out K rfl;obtain rfl:AO=XK ⟨K,0,XJ⟩:=ex.out.symm;obtain⟨b5,b4⟩:=KQ bv.out K2.out (HW.out.Ur (K1.out.trans K2.out)) eh.out X1.out i1 ⟨PY dd.out.1 K1.out.size,dd.out.2.1,PY dd.out.2.2 K1.out.size,K1.out.size⟩ K4.out gf.out hB go;have cl:XN (∀n,aa [K] (CU w4 A.heap.size) n->aa [x] w n):=fun n q=>by
    have a1:aa [x] w (CU w4 A.heap.size):=((K1.out.trans K2.out).mono (by simp)).trans (K4.out.tn (PQ _) K4.out.size);have:=K1.out.size;exact⟨q.os.trans a1.os,q.tape.trans a1.tape,q.output.trans a1.output,Qk a1.size q.size,fun i hi hn=>(q.block i (PY hi a1.size) (by simp;omega)).trans (a1.block i hi hn)⟩
   obtain⟨v,HV⟩:∃v,XN (CU w4 A.heap.size=v):=⟨_,rfl⟩
   rw[HV.out]at b5 b4 cl;have TV:XN _:=b5;have TB:XN _:=b4;have eb:XN _:=(GF v B F w.heap.size (Hg z F2 hy) H o lv f es hg E ⟨#[120]⟩ ⟨#[]⟩ w4 b4 (b5.form v (aa.refl _ _)) P.out.vars.1 (by have:=P.out.vars.2;omega) P.out.types (by show z.size<=10;omega) (by decide) (by show(⟨#[]⟩:ByteArray).size<=_;decide) (by show hy.length<=_;omega));obtain⟨nv,Q⟩:∃nv,XN (f.vars.length=nv):=⟨_,rfl⟩
   rw[Q.out]at eb;clear hB go b5 b4 cg hh ht co K4 gf X1 bv HV fm HZ;(go_upto_region 14 with (go_at_call 23;refine PU eb.out ?_;rintro e5 w5 ⟨hd,rfl,H5,gt,gs⟩));obtain⟨M,c6⟩:∃M,XN (Ei (Hg z F2 hy) ⟨#[120]⟩ ⟨#[]⟩ f.types nv=M):=⟨_,rfl⟩
   obtain⟨vl,a5⟩:∃vl,XN (rQ z ⟨#[120]⟩ nv=vl):=⟨_,rfl⟩
   have az:XN (pO v w5 B M H5):=(by rw[<-c6.out];exact gt);have fF:XN (xV v w5 B H5 hd vl):=(by rw[<-a5.out];exact gs);have c3:XN (M.goal=[]/\M.z=z/\M.laid=⟨#[]⟩/\M.names=[]/\M.verdicts=[]/\M.whys=[]/\M.decl=AQ z ⟨#[120]⟩ ⟨#[]⟩ f.types ⟨#[]⟩ nv):=(by rw[<-c6.out];exact⟨rfl,rfl,rfl,rfl,rfl,rfl,rfl⟩);have kd:M.goal.length<=1000:=(by rw[c3.out.1];simp);clear gt gs eb TB c6;have bm:XI w5 ⟨B,17,XJ⟩=XK (Xz (H5 8).ao M.goal.length (H5 8).cap):=by rw[az.out.bag.cell];rfl
   have ag:=az.out.bag.lt;have em:∀i,w5.frozen? ⟨B,i,XJ⟩=XM:=fun i=>az.out.bag.free i;have hD:XN _:=az.out.bag.Ur ((aa.refl [] w5).alloc (XE #[Xy l] 9));have s2:XN (∀j u,([Xy l]:List XQ)[j]?=XK u->(w5.alloc (XE #[Xy l] 9)).cell? ((⟨w5.heap.size,0,XJ⟩:Addr).add j)=XK u):=by
    intro j u hj;have hk:(w5.alloc (XE #[Xy l] 9)).heap[w5.heap.size]?=XK (XE #[Xy l] 9):=PM _ _;rw[ba,ab hk];simpa using hj
   have s3:XN (∀u∈([Xy l]:List XQ),u.oneCell'=XL):=(by intro u hu;simp at hu;subst hu;rfl);have gb:XN (∀j,j≠8->nz (E2 M [l]) j=nz M j):=yo M (M.goal++[l])
   go_cut [] from 80 to 89 (fun we=>∃H',pO v we B (E2 M [l]) H'/\xV v we B H' hd vl)
   case first =>
    go_wp2_with (at_builtin;refine aD _ rfl (.tmp 84) (.tmp 86) 22 rfl iS (Xy ⟨#[]⟩) 16 (H5 8) (au M.goal) underlying22 hf cz cF cW rfl Qf rfl (aB.own hD.out 8) ⟨_,0,XJ⟩ 1 1 [Xy l] rfl rfl s2.out s3.out Qf (by simp only[au];unfold maxLen;omega) (by simp only[au];omega) ?_;intro g5 cs w6 hC cw ct;obtain⟨k6,f5,dT⟩:=aB.app hD.out (cs':=Bb (E2 M [l]) (cX H5 8 ⟨XK ⟨g5,0,XJ⟩,cs⟩)) (rows':=nz (E2 M [l])) 17 8 g5 cs (M.goal.length+1) _ hC (bJ _ _) cw (by simpa using ct) gb.out _ rfl (by simp[Bb,cX,E2]);clear hC cw ct)
    all_goals go_meet
    all_goals (case rel=>exact⟨_,(az.out.Ur ((aa.refl [] _).alloc _)).turn dT.out.1 dT.out.2,(fF.out.Ur ((aa.refl [] _).alloc _)).turn dT.out.2⟩)
   case rest =>
    obtain⟨H6,b6,l6⟩:=hcut;obtain⟨w6,e6⟩:∃w6,w6=wc:=⟨_,rfl⟩
    subst e6;clear hD s2 s3 gb bm ag em az fF;have a0:XN _:=b6;have f0:XN _:=l6;clear b6 l6;have ai:XN (∀a,aa [] v a->fQ a F w.heap.size o lv f es hg E):=fun a q=>TV.out.form a (q.mono (by simp));obtain⟨g0,o0,en,g8,cu,kc,cv,-⟩:=uW (ai.out v (aa.refl _ _)).gl.1 P.out.goal.1;have cj:XN _:=cv;obtain⟨G,av⟩:∃G,XN (f.goal=G):=⟨_,rfl⟩
    have gp:1<=f.goal.length/\f.goal.length<=11:=P.out.goal;rw[av.out]at cu cj gp;have kW:¬G.length=0:=(by omega);have kA:(1:Int)<=G.length:=(by omega);have kz:G.length<=11:=gp.2;obtain⟨S,a9⟩:∃S,XN (py f.vars vl (G.drop 1)=S):=⟨_,rfl⟩
    have HY:XN (∀a,aa [] v a->(XI a ⟨F,9,XJ⟩=XK (Xz (XK ⟨g0,o0,XJ⟩) G.length hg.cap)/\XI a ⟨F,4,XJ⟩=XK (Xz (E 2).ao nv (E 2).cap))/\F<a.heap.size/\g0<a.heap.size):=fun a q=>by
     have hb:=(ai.out a q).bag;refine⟨⟨by rw[hb.cell,<-en,<-av.out];rfl,by rw[hb.cell,<-Q.out];rfl⟩,hb.lt,PY g8 q.size⟩
    have W:XN (∀a,aa [] w6 a->XO prog 24 #[Xz (XK ⟨g0,if hg.cap=1 then o0 else o0+1,XJ⟩) (G.length-1) (hg.cap-1),Xz (E 2).ao nv (E 2).cap,Xz hd.ao nv hd.cap] a fun r n=>∃hd:Hd,r=XH (Xz hd.ao S.length hd.cap)/\Dj a n hd (au S)):=fun a q=>by
     have g6:=ai.out a (a0.out.kept.trans q);obtain⟨ks,mj,e1,-,-,-,e3,e4⟩:=uW g6.gl.1 P.out.goal.1;rw[en]at e1;cases e1
     rw[<-a9.out,<-Q.out,<-av.out];have j0:f.vars.length=vl.length:=by rw[<-a5.out,kS,Q.out]
     exact Fj hg (E 2) hd f.goal f.vars vl g0 o0 a e3 e4 (g6.bag.own 2).view (f0.out.own.Ur q).view P.out.goal.2 (by have:=P.out.vars.1;omega) j0 (fun x hx=>by
      rw[<-a5.out]at hx;obtain⟨i,-,rfl⟩:=Qu.1 hx;have:=rR (z:=z) (s:=⟨#[120]⟩) (by omega) (by decide) i
      omega)
    obtain⟨⟨y9,y4⟩,be,X⟩:=HY.out w6 a0.out.kept;clear en g8 cv;go_upto_region 15 with fail
    go_cut [14] from 90 to 100 (fun j4 we=>∃hp:Hd,j4=Xz hp.ao S.length hp.cap/\Dj w6 we hp (au S))
    case first =>
     by_cases bg:hg.cap=1
     ·rw[PZ bg]at W;rw[bg]at W y9 cu;have ge:XN (∀a,aa [] v a->(XI a ⟨F,9,XJ⟩=XK (Xz (XK ⟨g0,o0,XJ⟩) G.length 1)/\XI a ⟨F,4,XJ⟩=XK (Xz (E 2).ao nv (E 2).cap))/\F<a.heap.size/\g0<a.heap.size):=fun a q=>by have:=HY.out a q;rw[bg]at this;exact this
      clear bg;rw[Rl]at W;have gq:G.length=1:=by omega
      rw[gq]at W ge y9;clear gq;go_region_held3 (fun n=>XI n ⟨F,9,XJ⟩=XK (Xz (XK ⟨g0,o0,XJ⟩) 1 1)/\XI n ⟨F,4,XJ⟩=XK (Xz (E 2).ao nv (E 2).cap)) (go_keep) ((go_at_call 24;go_must (refine PU (W.out _ (by exact(aa.refl [] w6).drew)) ?_);rintro e7 w7 ⟨hp,rfl,n7⟩;obtain⟨⟨y9,y4⟩,be,X⟩:=ge.out _ (a0.out.kept.trans ((aa.refl [] w6).drew.trans n7.kept))))
      all_goals go_wp2_with fail
      all_goals go_meet
      all_goals (case rel=>exact⟨hp,rfl,n7.base (aa.refl [] w6).drew⟩)
     ·rw[PV bg]at W;have kY:¬hg.cap-1=0:=(by omega);have k0:(G.length:Int)<=(hg.cap:Int):=(by omega);go_region_held3 (fun n=>XI n ⟨F,9,XJ⟩=XK (Xz (XK ⟨g0,o0,XJ⟩) G.length hg.cap)/\XI n ⟨F,4,XJ⟩=XK (Xz (E 2).ao nv (E 2).cap)) (go_keep) ((go_at_call 24;go_must (refine PU (W.out _ (by exact(aa.refl [] w6).drew)) ?_);rintro e7 w7 ⟨hp,rfl,n7⟩;obtain⟨⟨y9,y4⟩,be,X⟩:=HY.out _ (a0.out.kept.trans ((aa.refl [] w6).drew.trans n7.kept))))
      all_goals go_wp2_with fail
      all_goals go_meet
      all_goals (case rel=>exact⟨hp,rfl,n7.base (aa.refl [] w6).drew⟩)
    case rest =>
     obtain⟨hp,rfl,n7⟩:=hcut;have V:XN (pO v wc B (E2 M [l]) H6):=a0.out.Ur n7.kept;have b0:XN (aE wc hp (au S)):=n7.own;obtain⟨k6,bw⟩:∃k6,XN (E2 M [l]=k6):=⟨_,rfl⟩
     rw[bw.out]at V;have kk:k6.goal.length<=2000:=by rw[<-bw.out];show(M.goal++[l]).length<=_;rw[Qa,Ra];omega
     have i5:S.length<=10:=(by rw[<-a9.out,<-av.out,<-a5.out,<-Q.out];exact P.out.put);have f1:XN (hp.ao=XJ->S.length=0/\hp.cap=0):=fun e=>by
      rcases b0.out.UC with ⟨e0,h0,-⟩ | ⟨gg,hY,e1,-⟩
      ·exact⟨h0,by rw[e0]⟩
      ·rw[e1]at e;cases e
     have HC:XN (∀ad,hp.ao=XK ad->∀j u,(strs S)[j]?=XK u->wc.cell? (ad.add j)=XK u):=fun ad e j u hj=>by
      rcases b0.out.UC with ⟨e1,-,-⟩ | ⟨gg,hY,e1,-⟩
      ·rw[e1]at e;cases e
      ·rw[e1]at e;cases e
       rw[ba];exact b0.out.cell e1 j u hj
     have bm:XI wc ⟨B,17,XJ⟩=XK (Xz (H6 8).ao k6.goal.length (H6 8).cap):=(by rw[V.out.bag.cell];rfl);have ag:=V.out.bag.lt;have em:∀i,wc.frozen? ⟨B,i,XJ⟩=XM:=fun i=>V.out.bag.free i;clear n7 W HY y9 y4 be X a0 f0 cj ai;go_upto_region 16 with fail
     go_cut [] from 101 to 109 (fun we=>∃H',pO v we B (E2 k6 S) H')
     case first =>
      go_wp2_with (at_builtin;refine ju _ rfl (.tmp 105) (.tmp 106) 22 rfl iS (Xy ⟨#[]⟩) 16 (H6 8) (au k6.goal) underlying22 hf cz cF cW rfl Qf rfl (aB.own V.out.bag 8) hp.ao S.length hp.cap (strs S) rfl (by simp[au,strs]) f1.out HC.out (ij _) (by simp only[au];omega) (by omega) ?_;intro h8 w8 eq g9;rw[Ab]at eq;obtain⟨k8,f8,f3⟩:=mN.more V.out.bag S h8 eq g9;clear eq g9)
      all_goals go_meet
      all_goals (case rel=>exact⟨_,V.out.turn f3.out.1 f3.out.2⟩)
     case rest =>
      obtain⟨H7,b7⟩:=hcut;obtain⟨t,c7⟩:∃t,XN (E2 k6 S=t):=⟨_,rfl⟩
      rw[c7.out]at b7;have gc:XN (xR K B v wc t H7 (zD z f O 0)):=by rw[LB];exact b7.trs TV.out.lst
      have J:XN (t.goal=l :: S/\t.z=z/\t.laid=⟨#[]⟩/\t.names=[]/\t.verdicts=[]/\t.whys=[]/\t.decl=AQ z ⟨#[120]⟩ ⟨#[]⟩ f.types ⟨#[]⟩ nv):=by
       obtain⟨q0,q1⟩:=c3.out;rw[<-c7.out,<-bw.out];exact⟨by show M.goal++[l]++S=_;rw[q0];rfl,q1⟩
      clear b7 V b0 bw c7 c3 f1 HC bm ag em;obtain⟨nh,a4⟩:∃nh,XN (f.hyps.length=nh):=⟨_,rfl⟩
      have ls:nh<=10000:=(by rw[<-a4.out];exact P.out.hyps.1);have lo:lw<=64:=(by rw[<-a8.out];exact P.out.labs.2);have fl:XN (K<v.heap.size):=TV.out.lt.2.2.2;have d2:XN (∀a j L,xR K B v a t H7 L->L[j]?=XK (O.getD j ⟨#[]⟩)->(XI a ⟨F,2,XJ⟩=XK (Xz (E 0).ao nh (E 0).cap)/\XI a ⟨K,j,XJ⟩=XK (Xy (O.getD j ⟨#[]⟩)))/\F<a.heap.size/\K<a.heap.size):=fun a j L q hj=>by
       have hb:=(TV.out.form a q.kept).bag;have hl:=q.lst.blk K rfl;refine⟨⟨by rw[hb.cell,<-a4.out];rfl,by rw[ab hl];simp[strs,hj]⟩,hb.lt,ae hl⟩
      have ff:XN (∀a L y,xR K B v a t H7 L->XO prog 25 #[Xz (E 0).ao nh (E 0).cap,Xy y] a fun e n=>e=XH (Xx XF (eT (aZ f.hyps y)))/\n=a):=fun a L y q=>by
       rw[<-a4.out];exact Eb (E 0) f.hyps y a ((TV.out.form a q.kept).bag.own 0).view (by have:=a4.out;omega)
      have f2:XN (∀a L i,xR K B v a t H7 L->i<nh->XO prog 26 #[XA (XK ⟨B,0,XJ⟩),XA (XK ⟨F,0,XJ⟩),Xx XF (i:Nat),Xy ⟨#[120]⟩] a fun e n=>e=XH (Xy (Ci z f.which i ⟨#[120]⟩))/\aa [] a n):=fun a L i q hi=>by
       have hm:i<f.which.length:=(by rw[P.out.hyps.2,a4.out];exact hi);have:=LK B F w.heap.size t H7 o lv f es hg E i ⟨#[120]⟩ a q.bag (TV.out.form a q.kept) hm (P.out.which i hm) (by rw[J.out.2.1];omega) (by decide);rw[J.out.2.1]at this;exact this
      go_wp2
      go_loopg [15] lw (fun gk iv wr=>∃j:Nat,j<=lw/\gk=lw-j/\iv=Xx XF j/\XN (xR K B v wr t H7 (zD z f O j)))
      case atStart=>exact⟨0,by omega,rfl,rfl,gc⟩
      case round =>
       obtain⟨j,hj,le,rfl,HS⟩:=hrel;by_cases hs:j<lw
       ·have lg:(j:Int)<(lw:Int):=(by omega);have bk:j<O.length:=(by rw[a8.out];exact hs);have a7:XN (O.getD j ⟨#[]⟩=O[j]):=(by show _=_;rw[PK,PJ bk];rfl);obtain⟨⟨y2,yj⟩,be,X⟩:=d2.out wr j _ HS.out (by rw[DP bk,a7.out]);have ga:XN (∀a,aa [] wr a->(XI a ⟨F,2,XJ⟩=XK (Xz (E 0).ao nh (E 0).cap)/\XI a ⟨K,j,XJ⟩=XK (Xy (O.getD j ⟨#[]⟩)))/\F<a.heap.size/\K<a.heap.size):=fun a q=>d2.out a j _ (HS.out.Ur q) (by rw[DP bk,a7.out]);obtain⟨y,hV⟩:∃y,XN (O.getD j ⟨#[]⟩=y):=⟨_,rfl⟩
        rw[hV.out]at yj ga a7;have bs:XN _:=ff.out wr.drew _ y (HS.out.Ur (aa.refl [] wr).drew);cases ah:aZ f.hyps y with
        | none =>
         rw[ah,show eT XJ=-1 from rfl]at bs;have HE:XN (zD z f O (j+1)=zD z f O j):=LA bk (by rw[<-a7.out];unfold DM;rw[ah]);clear ah;(go_upto_region 20 with fail);go_region_held3 (fun n=>XI n ⟨F,2,XJ⟩=XK (Xz (E 0).ao nh (E 0).cap)/\XI n ⟨K,j,XJ⟩=XK (Xy y)) (go_keep) ((go_at_call 25;refine PU bs.out ?_;rintro e2 p ⟨rfl,Y⟩;rw[Y];clear Y));go_wp2;go_roundg (lw-(j+1))
         case measure=>omega
         case rel=>exact⟨j+1,by omega,rfl,by go_num,by rw[HE.out];exact HS.out.Ur (aa.refl [] wr).drew⟩
        | some q =>
         rw[ah,show eT (XK q)=(q:Int) from rfl]at bs;have hq:q<nh:=by rw[<-a4.out];exact mE ah
         have HE:XN (zD z f O (j+1)=(zD z f O j).set j (Ci z f.which q ⟨#[120]⟩)):=(by show _=_;rw[DQ bk,<-a7.out];unfold DM;rw[ah]);have hL:XN _:=f2.out wr.drew _ q (HS.out.Ur (aa.refl [] wr).drew) hq;clear ah;have l3:¬(q:Int)<0:=(by omega);(go_upto_region 20 with fail);go_region_held3 (fun n=>XI n ⟨F,2,XJ⟩=XK (Xz (E 0).ao nh (E 0).cap)/\XI n ⟨K,j,XJ⟩=XK (Xy y)) (go_keep) ((go_at_call 25;refine PU bs.out ?_;rintro e2 p ⟨rfl,Y⟩;rw[Y];clear Y));go_wp2_with (go_at_call 26;refine PU hL.out ?_;rintro e2 p ⟨rfl,k9⟩;obtain⟨⟨y2,yj⟩,be,X⟩:=ga.out p ((aa.refl [] wr).drew.trans k9);have lb:∀i,p.frozen? ⟨K,i,XJ⟩=XM:=fun i=>aw ((HS.out.Ur ((aa.refl [] wr).drew.trans k9)).lst.blk K rfl) i);go_roundg (lw-(j+1))
         case measure=>omega
         case rel=>exact⟨j+1,by omega,rfl,by go_num,by rw[HE.out];exact(HS.out.Ur ((aa.refl [] wr).drew.trans k9)).wrote fl.out j _⟩
       ·have i3:j=lw:=(by omega);obtain⟨W',bd⟩:∃W',XN (O.map (DM z f)=W'):=⟨_,rfl⟩
        have ac:XN (xR K B v wr t H7 W'):=by
         have:=HS.out;rw[i3,<-a8.out,Nz,bd.out]at this;exact this
        have b1:XN (W'.length=lw):=(by show _=_;rw[<-bd.out,Qh,a8.out]);have eg:XN (∀x∈W',x.size<=2000):=(by rw[<-bd.out];exact P.out.new);have c4:XN (∀x∈t.goal,x.size<=2000):=(by rw[J.out.1,<-a9.out,<-a5.out,<-Q.out,<-av.out];exact P.out.syms);have he:t.goal.length<=11:=(by rw[J.out.1,QG];omega);have c5:XN (XO prog 27 #[Xz (XK ⟨K,0,XJ⟩) lw lw] wr fun e n=>e=XH (Xy (zk W'))/\n=wr):=by
         have hl:W'.length<=10000:=(by rw[b1.out];omega);have:=zl ⟨XK ⟨K,0,XJ⟩,W'.length⟩ W' wr (MF ac.out.lst hl) hl (fun x hx=>by have:=eg.out x hx;omega);simp only at this;rw[b1.out]at this;exact this
        have hw:(zk W').size<=7000000:=by
         have Z:=rJ W' (fun x hx=>by have:=eg.out x hx;omega) W'.length (PQ _);unfold zk;rw[b1.out]at Z ⊢;omega
        have i2:(zk t.goal).size<=2000000:=by
         have Z:=rJ t.goal (fun x hx=>by have:=c4.out x hx;omega) t.goal.length (PQ _);unfold zk;omega
        obtain⟨pj,dk⟩:∃pj,XN (zk W'=pj):=⟨_,rfl⟩
        rw[dk.out]at c5 hw;have gd:XN _:=(Ax (CU wr v.heap.size) B t H7 ⟨#[110]⟩ (H7 8) t.goal pj 5 0 wr ac.out.cut (ac.out.bag.own 8).view (by omega) (fun x hx=>by have:=c4.out x hx;omega) (by rw[J.out.2.1];omega) (by decide) (by omega) (by rw[J.out.2.2.1];decide) (by rw[J.out.2.2.2.1];decide) (by rw[J.out.2.2.2.2.1];decide) (by rw[J.out.2.2.2.2.2.1];decide));have bm:XI wr ⟨B,17,XJ⟩=XK (Xz (H7 8).ao t.goal.length (H7 8).cap):=by rw[ac.out.bag.cell];rfl
        have ag:=ac.out.bag.lt;clear HS gc d2 ff f2 hs;(go_upto_region 24 with (go_at_call 27;refine PU c5.out ?_;rintro e2 p ⟨rfl,Y⟩;rw[Y];clear Y));(go_upto_region 25 with (go_at_call 28;refine PU gd.out ?_;rintro e2 p ⟨rfl,H9,b9,t9⟩));have D:XN _:=ac.out.turn fl.out b9.bag t9;obtain⟨k9,c8⟩:∃k9,XN (Oc t ⟨#[110]⟩ (zk t.goal) pj (if((0:Int)==0)=XL then 5 else 2) 0=k9):=⟨_,rfl⟩
        rw[c8.out]at D;obtain⟨dc,bq⟩:∃dc,XN (AQ z ⟨#[120]⟩ ⟨#[]⟩ f.types ⟨#[]⟩ nv=dc):=⟨_,rfl⟩
        obtain⟨la,bx⟩:∃la,XN (GB ⟨#[]⟩ z ⟨#[110]⟩ (zk (l :: S)) pj=la):=⟨_,rfl⟩
        have ap:XN ((k9.z=z/\k9.decl=dc/\k9.laid=la)/\k9.names=[nm z [110]]/\k9.verdicts=[5]/\k9.whys=[0]):=by
         obtain⟨q1,q2,q3,q4,q5,q6,q7⟩:=J.out;rw[<-c8.out,<-bq.out,<-bx.out];refine⟨⟨q2,q7,?_⟩,?_,?_,?_⟩
         ·show GB t.laid t.z _ _ _=_;rw[q3,q2,q1]
         ·show t.names++[t.z++⟨#[110]⟩]=_;rw[q4,q2,M4];rfl
         ·show t.verdicts++[if((0:Int)==0)=XL then 5 else 2]=_;rw[q5];rfl
         ·show t.whys++[0]=_;rw[q6];rfl
        have k3:dc.size<=6000000:=by
         rw[<-bq.out];have Z:=Dt (z:=z) (s:=⟨#[120]⟩) (sk:=⟨#[]⟩) (d:=⟨#[]⟩) (by omega) (by decide) P.out.types nv (by have:=P.out.vars.2;have:=Q.out;omega);have h2:nv<=4200:=by rw[<-Q.out];exact P.out.vars.1
         have h3:(⟨#[]⟩:ByteArray).size=0:=rfl;omega
        have ln:la.size<=20000000:=by
         rw[<-bx.out,<-J.out.1];unfold GB;simp only[ByteArray.size_append];have h3:(⟨#[]⟩:ByteArray).size=0:=rfl;have h4:(⟨#[10]⟩:ByteArray).size=1:=rfl;have h5:(⟨#[110]⟩:ByteArray).size=1:=rfl;have h6:(⟨#[32,36,112,32]⟩:ByteArray).size=4:=rfl;have h7:(⟨#[32,36,61,32]⟩:ByteArray).size=4:=rfl;have h8:(⟨#[32,36,46]⟩:ByteArray).size=3:=rfl;omega
        obtain⟨U,ec⟩:∃U,XN (T++⟨#[10,36,123]⟩++dc++la++⟨#[10,36,125]⟩=U):=⟨_,rfl⟩
        have kX:=HT.out.size;have hQ:XN (U.size<=4294967296):=by
         rw[<-ec.out];simp only[ByteArray.size_append];have h3:(⟨#[10,36,123]⟩:ByteArray).size=3:=rfl;have h4:(⟨#[10,36,125]⟩:ByteArray).size=3:=rfl;show _<=_;omega
        have hP:XN (U.size<=1024->OZ T U z l):=by
         have e:xI T z f.types (l :: S) W'=U:=by
          unfold xI;rw[dk.out,P.out.vars.2,Q.out,bq.out,bx.out,ec.out]
         have:=P.out.read;rw[bd.out,Q.out,a5.out,av.out,a9.out,e]at this;exact this
        have fx:XN (aa [x] w p):=cl.out p D.out.kept;clear gd c5 ac dk bd b1 eg c4 J bm ag b9 t9 c8 bx bq a9 he i2 hw i5;obtain⟨W9,V9⟩:=TV.out.world D.out.kept;have cn:XN (∀a,aa [] p a->XO prog 29 #[XA (XK ⟨b,0,XJ⟩),Xy U] a fun e n=>∃ao m ee,e=XH (eG (Xz ao m m) 0 ⟨#[]⟩ 0 0 ee)/\aR n b x T (XK gr)/\(∃fs,br n x fs/\or 0 fs)/\aa [x] a n/\pU x T U z l a.heap.size ao m ee n):=fun a q=>by
         obtain⟨id,j5,kb⟩:=V9;exact Mc eh.out (W9.Ur q) ⟨id,j5.kept q (by simp),kb⟩ hQ.out hP.out
        have c1:XI p ⟨b,1,XJ⟩=XK (Xy T):=W9.cells.2.1;have bf:=W9.lt;have z2:XI p ⟨B,2,XJ⟩=XK (Xy dc):=(by rw[D.out.bag.cell,<-ap.out.1.2.1];rfl);have hI:XI p ⟨B,12,XJ⟩=XK (Xy la):=(by rw[D.out.bag.cell,<-ap.out.1.2.2];rfl);have ag:=D.out.bag.lt;have b2:XN (x<v.heap.size/\x≠B):=by
         have Z:=TV.out.lt.2.1;have h2:=D.out.new.1;exact⟨Z,by omega⟩
        have bp:XN (∀a A:XP,aa [] p a->aa [x] a A->mN A B k9 H9):=fun a A q1 q2=>aB.kept (aB.Ur D.out.bag q1) q2 (by have:=b2.out.2;simp;omega) (fun y hy=>by have:=D.out.new.2 y hy;have:=b2.out.1;simp;omega);have e9:XN (∀a A:XP,aa [] p a->aa [x] a A->XI A ⟨B,2,XJ⟩=XK (Xy dc)/\XI A ⟨B,12,XJ⟩=XK (Xy la)/\B<A.heap.size):=fun a A q1 q2=>by
         have hb:=bp.out a A q1 q2;exact⟨by rw[hb.cell,<-ap.out.1.2.1];rfl,by rw[hb.cell,<-ap.out.1.2.2];rfl,hb.lt⟩
        have ca:XN (∀A:XP,aa [x] (p.alloc (XE #[Xz XJ 0 0,Xx XF 0,Xy ⟨#[]⟩,Xx XF 0,Xx XF 0,Xx XF 0] 87)).drew A->A.heap[p.heap.size]?=XK (XE #[Xz XJ 0 0,Xx XF 0,Xy ⟨#[]⟩,Xx XF 0,Xx XF 0,Xx XF 0] 87)):=fun A hk=>hk.get (PM p (XE #[Xz XJ 0 0,Xx XF 0,Xy ⟨#[]⟩,Xx XF 0,Xx XF 0,Xx XF 0] 87)) (by have:=b2.out.1;have:=D.out.kept.size;simp;omega);have fk:XN (gr<p.heap.size):=W9.rows.lt gr rfl;clear W9
        go_cut [18,19] from 143 to 163 (fun j2 j3 wd=>∃sp ao m ee,p.heap.size<=sp/\j2=XA (XK ⟨sp,0,XJ⟩)/\j3=XC XL/\wd.heap[sp]?=XK (XE #[Xz ao m m,Xx XF 0,Xy ⟨#[]⟩,Xx XF 0,Xx XF 0,Xx XF ee] 87)/\aR wd b x T (XK gr)/\(∃gh,br wd x gh/\or 0 gh)/\aa [x] p wd/\mN wd B k9 H9/\pU x T U z l p.heap.size ao m ee wd)
        case first =>
         have n1:=World.new_ne p ⟨b,1,XJ⟩ c1;have n2:=World.new_ne p ⟨B,2,XJ⟩ z2;have n3:=World.new_ne p ⟨B,12,XJ⟩ hI;have z1:¬9223372036854775807<T.size+3:=(by omega);have z3:¬9223372036854775807<T.size+3+dc.size:=(by omega);have z4:¬9223372036854775807<T.size+3+dc.size+la.size:=(by omega);have z5:¬9223372036854775807<T.size+3+dc.size+la.size+3:=(by omega);go_region_held3 (fun n=>XI n ⟨b,1,XJ⟩=XK (Xy T)/\XI n ⟨B,2,XJ⟩=XK (Xy dc)/\XI n ⟨B,12,XJ⟩=XK (Xy la)) (go_keep) (first | (go_at_call 29;rw[ec.out];refine PU (cn.out _ (by first | exact((aa.refl [] p).alloc (XE #[Xz XJ 0 0,Xx XF 0,Xy ⟨#[]⟩,Xx XF 0,Xx XF 0,Xx XF 0] 87)).drew | exact(aa.refl [] p).drew)) ?_;rintro e A ⟨aq,mq,ee,rfl,el,cb,I,gv⟩;simp only[eG];obtain⟨d0,d1,-⟩:=el.cells;obtain⟨d3,d4,d5⟩:=e9.out _ A (by first | exact((aa.refl [] p).alloc (XE #[Xz XJ 0 0,Xx XF 0,Xy ⟨#[]⟩,Xx XF 0,Xx XF 0,Xx XF 0] 87)).drew | exact(aa.refl [] p).drew) I;try (obtain⟨y0,y1,y2,y3,y4,y5⟩:=bG (ca.out A I);have y:=aw (ca.out A I))))
         ·go_wp2_with fail;go_meet
          case rel =>
           exact⟨A.heap.size,aq,mq,ee,I.size,rfl,rfl,PM _ _,el.Ur ((aa.refl [] _).alloc _),⟨_,cb.choose_spec.1.kept ((aa.refl [] _).alloc _) (by simp),cb.choose_spec.2⟩,((aa.refl [x] p).drew.trans I).alloc _,aB.Ur (bp.out _ A (by exact(aa.refl [] p).drew) I) ((aa.refl [] _).alloc _),gv.Ur ((aa.refl [] _).alloc _)⟩
         ·go_wp2_with fail;go_meet
          case rel =>
           have l7:=b2.out.1;have l5:=D.out.kept.size;have lf:=fk.out;have kl:(p.alloc (XE #[Xz XJ 0 0,Xx XF 0,Xy ⟨#[]⟩,Xx XF 0,Xx XF 0,Xx XF 0] 87)).drew.heap.size=p.heap.size+1:=(by show(p.heap.push _).size=_;exact Array.size_push _);have ih:=bp.out _ A (by exact((aa.refl [] p).alloc (XE #[Xz XJ 0 0,Xx XF 0,Xy ⟨#[]⟩,Xx XF 0,Xx XF 0,Xx XF 0] 87)).drew) I;have kv:=D.out.bag.lt;have ir:=fun y (hy:cD H9 y)=>aB.inlt D.out.bag hy;refine⟨p.heap.size,aq,mq,ee,PQ _,rfl,rfl,JN (ca.out A I) _ _ _ _ _ _,el.kept (oi _ _ _ _ _ _) (by simp;omega) (fun g hg=>by have:gr=g:=Qz hg;simp;omega),⟨_,cb.choose_spec.1.kept (oi _ _ _ _ _ _) (by simp;omega),cb.choose_spec.2⟩,eX (((aa.refl [x] p).alloc _).drew.trans I) (PQ _) _ _ _ _ _ _,aB.kept ih (oi _ _ _ _ _ _) (by simp;omega) (fun y hy=>by have:=ir y hy;simp;omega),pU.down (gv.UA (oi _ _ _ _ _ _) (by omega) (by omega)) (by omega)⟩
        case rest =>
         obtain⟨sp,aq,mq,ee,l4,rfl,rfl,hS,g4,gw,ho,gm,ix⟩:=hcut;obtain⟨y0,y1,y2,y3,y4,y5⟩:=bG hS;have jv:=ae hS;have ef:XN _:=g4;have fu:XN (aa [x] w wc):=fx.out.trans ho;have eL:XN _:=gm;have e8:XN (∀a R,aa [] wc a->br a x R->or 0 R->XO prog 31 #[XA (XK ⟨b,0,XJ⟩)] a fun e n=>rV 0 b x T (XK gr) a e n):=fun a R q Z h2=>Ha (N:=0) (by omega) b x T (XK gr) R a (ef.out.Ur q) Z eh.out h2 HT.out;clear hS g4 ho gm cn bp e9 ca c1 z2 hI bf ag;rcases ix with ⟨rfl,rfl,rfl⟩ | ⟨rfl,g2,⟨rfl,rfl⟩,h2,-,h4,h5⟩
         ·obtain⟨R,v1,v2⟩:=gw;go_wp2_with fail;refine(e8.out wc R (aa.refl _ _) v1 v2).mono ?_;rintro e cf ⟨rfl,-,-,ep⟩;go_wp2;go_ret;exact⟨rfl,fu.out.trans ep⟩
         ·clear gw;have am:XN _:=h5;have hN:XN _:=h4;have fc:XN (XO prog 30 #[XA (XK ⟨b,0,XJ⟩),XB #[Xz (XK ⟨g2,0,XJ⟩) (bu U).length (bu U).length,Xx XF 0,Xy ⟨#[]⟩,Xx XF 0,Xx XF 0,Xx XF 0],XA (XK ⟨B,0,XJ⟩)] wc fun e n=>e=XH (XC XL)/\aa [] wc n):=by
           have jj:=am.out.rows;have hv:=am.out.fine.rws;rw[jj]at h2 hv ⊢;obtain⟨-,q1,q2,q3⟩:=ap.out;exact Br b x T gr g2 [⟨nm z [110],5,0,db⟩] B k9 H9 0 ⟨#[]⟩ 0 0 wc ef.out h2 hv eL.out q1 q2 q3 (by simp)
          obtain⟨nu,hK⟩:∃nu,XN ((bu U).length=nu):=⟨_,rfl⟩
          rw[hK.out]at fc y0;clear h2 h4 h5;(go_upto_region 30 with (go_at_call 30;refine PU fc.out ?_;rintro e2 cf ⟨rfl,hF⟩));have b3:XN _:=hF;obtain⟨R,H3,g3,r1,-,-,r4⟩:=hN.out;have f6:XN (∀a,aa [] wc a->XO prog 9 #[XA (XK ⟨x,0,XJ⟩),Xy (z++⟨#[110]⟩),Xy l] a fun e n=>GQ (iC (aJ U).2.UD (nm z [110]) l) a e n):=fun a q=>by
           rw[M4];exact ud x R _ H3 g3 _ rfl (Cq am.out.fine) (nm z [110]) l a (r1.Ur q) (iB U am.out.fine.size am.out.fine.inc).ok
          have hU:XN (∀a,aa [] wc a->br a x R):=fun a q=>r1.anyR.kept q (by simp);have hJ:XN _:=r4;have ch:XN (∀a,aa [] cf a->(XI a ⟨b,0,XJ⟩=XK (XA (XK ⟨x,0,XJ⟩))/\XI a ⟨B,0,XJ⟩=XK (Xy z))/\b<a.heap.size/\B<a.heap.size):=fun a q=>by
           have Z:=ef.out.Ur (b3.out.trans q);have h2:=aB.Ur eL.out (b3.out.trans q);exact⟨⟨Z.cells.1,by rw[h2.cell,<-ap.out.1.1];rfl⟩,Z.lt,h2.lt⟩
          obtain⟨⟨e0,e1⟩,e2,e3⟩:=ch.out cf (aa.refl _ _);have mi:¬9223372036854775807<z.size+1:=(by omega);clear r1 r4 hF y0 y1 y2 y3 y4 y5 jv;go_region_held3 (fun n=>XI n ⟨b,0,XJ⟩=XK (XA (XK ⟨x,0,XJ⟩))/\XI n ⟨B,0,XJ⟩=XK (Xy z)) (go_keep) ((go_at_call 9;refine PU (f6.out _ (by exact b3.out.drew)) ?_;rintro e4 ev ⟨hH,bl,kq,rfl,-,-,et⟩;obtain⟨⟨e0,e1⟩,e2,e3⟩:=ch.out _ ((aa.refl [] cf).drew.trans et)));have ku:(hH.1==10)=XM:=Qi.2 (am.out.tree _ bl);have ek:XN (aa [] wc ev):=b3.out.drew.trans et;clear bl et;go_wp2_with fail;refine(e8.out ev R ek.out (hU.out ev ek.out) hJ.out).mono ?_;rintro e mk ⟨rfl,-,-,ep⟩;go_wp2;go_ret;exact⟨rfl,(fu.out.trans (ek.out.mono (by simp))).trans ep⟩
end
end Go.Proofs.YtnbalopedcgpcaaGreat
