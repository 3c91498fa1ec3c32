import Derived.Test.YtpdholcaobgofaaGreatP39
namespace Go.Proofs.YtpdholcaobgofaaGreat
open Go.RowKit Tryz
open Value IntKind Ending
set_option maxHeartbeats 0
variable{l o:Xs}{x y L:World}{f D:Nat}{a M:Xr}{d:Hd}{k:Nat->Hd}{i:List mJ}(v:List Tk)(T:Nat)(S:List Sm)(b:Nat)(g s m:Xs)(I:List mJ)(N:mJ)
def Xl(cd lb:Xr)(hb:Hd)(n:Nat)(vs ts:Xs)(H:Nat->Hd):List Value:=[string cd,slice hb.ao n hb.cap,slice (H 0).ao vs.length (H 0).cap,slice (H 1).ao ts.length (H 1).cap,string lb]
def UB(vs ts:Xs):Nat->eD
  | 0=>aE vs
  | 1=>aE ts
  | _+2=>aE []
theorem zbb:∀j,j≠0->UB s m j=UB g m j:=by
  intro j a
  match j,a with
  | 0,a=>exact absurd rfl a
  | 1,_=>rfl
  | j+2,_=>rfl
theorem zba:∀j,j≠1->UB g m j=UB g s j:=by
  intro j a
  match j,a with
  | 0,_=>rfl
  | 1,a=>exact absurd rfl a
  | j+2,_=>rfl
structure BQ(w0 w:World)(pb:Nat)(cd lb:Xr)(hb:Hd)(n:Nat)(vs ts:Xs)(H:Nat->Hd):Prop where
  bag:aO w pb 185 (Xl cd lb hb n vs ts H) (UB vs ts) H
  kp:aa [pb] w0 w
  hi:∀k,eG H k->w0.heap.size<=k
section
variable {w0 w w':World} {pb n:Nat} {cd lb:Xr} {hb:Hd} {vs ts:Xs} {H H':Nat->Hd}
theorem BQ.Zbj(h:BQ w0 w pb cd lb hb n vs ts H)(k:aa [] w w'):BQ w0 w' pb cd lb hb n vs ts H:=⟨h.bag.Zbj k,h.kp.trans (k.mono (by simp)),h.hi⟩
theorem BQ.turned(h:BQ w0 w pb cd lb hb n vs ts H)(t:aw pb w H w' H')(g:aO w' pb 185 (Xl cd lb hb n l o H') (UB l o) H'):BQ w0 w' pb cd lb hb n l o H':=by
  refine⟨g,⟨t.1.os.trans h.kp.os,t.1.tape.trans h.kp.tape,t.1.output.trans h.kp.output,XF h.kp.size t.1.size,fun i a b=>?_⟩,fun k c=>?_⟩
  · refine(t.1.block i (XB a h.kp.size) (fun q=>?_)).trans (h.kp.block i a b)
    rcases q with q | q
    · exact b (by simp[q])
    · have:=h.hi i q;omega
  · rcases t.2 k c with q | q
    · exact h.hi k q
    · exact XF h.kp.size q
theorem BQ.cells(h:BQ w0 w pb cd lb hb n vs ts H):w.cell? ⟨pb,0,none⟩=some (string cd)/\w.cell? ⟨pb,1,none⟩=some (slice hb.ao n hb.cap)/\w.cell? ⟨pb,2,none⟩=some (slice (H 0).ao vs.length (H 0).cap)/\w.cell? ⟨pb,3,none⟩=some (slice (H 1).ao ts.length (H 1).cap)/\w.cell? ⟨pb,4,none⟩=some (string lb)/\pb<w.heap.size:=by
  refine⟨?_,?_,?_,?_,?_,h.bag.lt⟩ <;> (rw[h.bag.cell];rfl)
end
def LX(P:dZ)(ok:Bool)(w:World)(e:Ending)(w':World):Prop:=∃m:mJ,e=returned (tuple #[Ik m,bool ok])/\(ok=true->m.P=P/\qw w' m/\UI w w' m)/\aa [] w w'
theorem BQ.old(h:BQ y L f a M d D l o k)(c:aa [] x y)(b:x.heap.size<=f):aa [] x L:=mW c h.kp b
theorem BQ.ZbC{wr s:World}{i:Nat}{g:Xs}{P:dZ}{r:Bool}(h:BQ L wr f a M d i o g k)(w:(l.drop 1).length=i)(u:aa [] y L)(m:y.heap.size<=f)(A:dB y d (l.drop 1))(t:∀b,d.Zbx=some b->x.heap.size<b/\b<y.heap.size)(E:x.heap.size=D)(n:aa [] x y)(z:D<y.heap.size)(c:aa [D] wr s)(j:r=true->P=⟨M,a,l.drop 1,o,g⟩/\g.length=o.length/\i<=100000/\o.length<=100000):LX P r x (returned (tuple #[agg #[string a,slice d.ao i d.cap,slice (k 0).ao o.length (k 0).cap,slice (k 1).ao g.length (k 1).cap,string M],bool r])) s:=by
  subst w;have p:=h.old u m;have C:aa [] x s:=mW (n.trans p) c (by omega);have F:=u.size;have v:∀b,eG k b->b∉[D]:=fun b B q=>by have:=h.hi b B;rw[XH.1 q]at this;omega
  refine⟨⟨⟨M,a,l.drop 1,o,g⟩,d,k 0,k 1⟩,rfl,fun q=>⟨(j q).1.symm,⟨?_,?_,?_,(j q).2.1,(j q).2.2.1,(j q).2.2.2⟩,⟨fun b e=>?_,fun b e=>?_,fun b e=>?_⟩⟩,C⟩
  · exact(A.Zbj p).Zbw c (fun b e q=>by have:=t b e;rw[XH.1 q]at this;omega)
  · exact(show aD wr (k 0) (aE o) from h.bag.ZbH 0).view.Zbw c (fun b e=>v b ⟨0,e⟩)
  · exact(show aD wr (k 1) (aE g) from h.bag.ZbH 1).view.Zbw c (fun b e=>v b ⟨1,e⟩)
  · have:=t b e
    have:=p.size;have:=c.size;exact⟨by omega,by omega⟩
  · have:=h.hi b ⟨0,e⟩
    have:=h.bag.inlt ⟨0,e⟩;have:=c.size;have:=n.size;exact⟨by omega,by omega⟩
  · have:=h.hi b ⟨1,e⟩
    have:=h.bag.inlt ⟨1,e⟩;have:=c.size;have:=n.size;exact⟨by omega,by omega⟩
theorem BQ.start(h:x.heap[f]?=some (.cells #[string a,slice d.ao D d.cap,slice none 0 0,slice none 0 0,string M] 185)):BQ x x f a M d D [] [] (fun _=>⟨none,0⟩):=by
  refine⟨⟨h,fun i=>?_,fun _ _ _=>XQ rfl,fun i e=>by cases e⟩,aa.refl _ _,fun k ⟨i,e⟩=>by cases e⟩
  match i with
  | 0=>exact XE _ _ _ _
  | 1=>exact XE _ _ _ _
  | i+2=>exact XE _ _ _ _
theorem tZ(wr:World)(a c d e f:Value):aa [b] wr (((((wr.setCell ⟨b,0,none⟩ a).setCell ⟨b,1,none⟩ c).setCell ⟨b,2,none⟩ d).setCell ⟨b,3,none⟩ e).setCell ⟨b,4,none⟩ f) :=
  (((((aa.refl _ _).sl1 _).sl1 _).sl1 _).sl1 _).sl1 _
def KQ(T:List Tk)(S:List Sm)(q j:Nat):Bool:=!((ay S j).k.toList == [36,101])&&(kM (aU T S q) ((aU T S j).getD 1 ⟨#[]⟩)==1)
theorem R0:rY v S b=((jX v S b).isEmpty&&(bW v S b).all (KQ v S b)):=rfl
set_option maxRecDepth 100000
theorem Pu(q:Nat)(d:List Tk)(aq:Xt)(cT:Nat)(S:List Sm)(U:Xt)(cS:Nat)(w:World)(V:gM w T d aq cT S U cS)(ok:pE d S b)(hB:CB d S b)(hq:q<b)(hk:aG (ay S q).k=true) :
    Calls prog 106 #[pointer (some ⟨T,0,none⟩),int i64 q] w fun e C=>LX (UA d S q) (rY d S q) w e C:=by
  have b6:q<S.length:=XB hq ok.ok.m;have ar:∀k:Xr,(aG k||aK k)=true->cD k=false:=fun k h=>by
    unfold aG aK at h;rw[Yo,Yo,Yo]at h;rcases h with (h | h) | (h | h) <;> exact iq h (by decide)
  have bT:dA d (ay S q).h:=ok.e q hq (ar _ (by rw[hk];rfl));have eo:=(hB q hq (by rw[hk];rfl)).1;have cc:Xq (∀j,j<b->(aG (ay S j).k||aK (ay S j).k)=true->∀f,aa [] w f->Calls prog 71 #[pointer (some ⟨T,0,none⟩),int i64 j] f fun e C=>∃h',e=returned (slice h'.ao (aU d S j).length h'.cap)/\xf f C h' (aU d S j)):=fun j hj ea f k=>by
    have:=jI T j d aq cT S U cS f (V.Zbj k) (XB hj ok.ok.m) ok.ok.t (by rw[bA];exact ok.e j hj (ar _ ea));rw[bA]at this;exact this
  have cq:Xq (∀f,aa [] w f->Calls prog 86 #[pointer (some ⟨T,0,none⟩),int i64 q] f fun e C=>e=returned (string (bP d (ay S q)))/\aa [] f C):=fun f k=>by
    have:=oN T q d aq cT S U cS f (V.Zbj k) b6 (by rw[bA];exact ok.ok.a q hq);rw[bA]at this;exact this
  have dp:Xq (∀f,aa [] w f->Calls prog 63 #[pointer (some ⟨T,0,none⟩),int i64 q] f fun e C=>∃h',e=returned (slice h'.ao (jX d S q).length h'.cap)/\iG f C h' (ni (jX d S q))):=fun f k=>AI T q d aq cT S U cS f (V.Zbj k) (ok.mono (Ys hq)) b6 bT;have cl:Xq (∀f,aa [] w f->Calls prog 61 #[pointer (some ⟨T,0,none⟩),int i64 q] f fun e C=>∃h',e=returned (slice h'.ao (bW d S q).length h'.cap)/\iG f C h' (bK (bW d S q))):=fun f k=>oM T q d aq cT S U cS f (V.Zbj k) (ok.mono (Ys hq)) b6 bT;have db:Xq (∀j∈bW d S q,j<b/\aK (ay S j).k=true/\0<(aU d S j).length/\(((ay S j).k.toList == [36,101])=false->1<(aU d S j).length)):=fun j hj=>by
    obtain⟨h1,h2,h3⟩:=tY d S q j hj;obtain⟨a1,a2⟩:=hB j (by omega) (by rw[h3];simp);refine⟨by omega,h3,a1,fun h4=>a2 ?_⟩;unfold aK at h3;rw[h4,Y8]at h3;exact h3
  have dT:Xq (∀j,j<b->∀f,aa [] w f->f.cell? ⟨T,1,none⟩=some (slice U S.length cS)/\T<f.heap.size/\∃gS,U=some ⟨gS,0,none⟩/\gS<f.heap.size/\f.cell? ⟨gS,j*4+3,none⟩=some (string (ay S j).k)):=fun j hj f k=>by
    have cL:=XB hj ok.ok.m;obtain⟨gS,e1,cF,-,-,-,q3⟩:=(V.Zbj k).s.2 j S[j] (Xv cL);rw[bA]at q3;exact⟨(V.Zbj k).cells.2.1,(V.Zbj k).cells.2.2,gS,e1,cF,q3⟩
  have bs:Xq (b<=S.length/\S.length<=10000):=⟨ok.ok.m,ok.sm⟩;have el:(aU d S q).length<=10000:=XF (jO d _) ok.tm;have ez:(bW d S q).length<=10000:=by
    have h1:(bW d S q).length<=q:=(by unfold bW;have:=YE (vi d S q (Bz d S q)) (List.range q);rw[YW]at this;exact this);have:=bs.o;omega
  have br:Xq _:=R0 d S q;have dz:Xq (UA d S q=⟨bP d (ay S q),(aU d S q).getD 0 ⟨#[]⟩,(aU d S q).drop 1,(bW d S q).map (fun j=>(aU d S j).getD 1 ⟨#[]⟩),(bW d S q).map (fun j=>(aU d S j).getD 0 ⟨#[]⟩)⟩):=rfl;have dv:Xq (∀j,KQ d S q j=(!((ay S j).k.toList == [36,101])&&(kM (aU d S q) ((aU d S j).getD 1 ⟨#[]⟩)==1))):=fun _=>rfl;obtain⟨W,HW⟩:=aP (w.alloc (.cells #[string ⟨#[]⟩,slice none 0 0,slice none 0 0,slice none 0 0,string ⟨#[]⟩] 185));have kW:=dx HW.o;have BZ:=dC HW.o;have cb:Xq _:=(cc.o q hq (by rw[hk];rfl) W kW);have co:Xq _:=kW;have cg:Xq _:=BZ;obtain⟨rb,am⟩:=aP (w.heap.size);rw[am.o]at cg;have d3:Xq (W.heap.size=rb+1):=cm (by rw[<-HW.o,<-am.o];simp);generalize rY d S q=IS at *;generalize UA d S q=PP at *;generalize aU d S q=B at *;generalize bP d (ay S q)=I at *;generalize jX d S q=PR at *;generalize bW d S q=y at *;clear V kW BZ ok hB ar bT;go_enter func106,ntmps106;go_upto_region 1 with fail
  rw[HW.o,am.o];go_upto_region 2 with (go_at_call 71;refine Xx cb.o ?_;rintro e1 w1 ⟨h1,rfl,D⟩)
  have df:Xq _:=cq.o w1 (co.o.trans D.Zbw);have cB:Xq _:=D;clear D cb cq;go_upto_region 3 with (go_at_call 86;refine Xx df.o ?_;rintro e2 K ⟨rfl,k2⟩)
  have x2:=cB.o.Zbj k2;obtain⟨g,c,rfl⟩:∃g c,h1=⟨some ⟨g,0,none⟩,c⟩:=by
    obtain⟨ao,c⟩:=h1;rcases x2.ZbH.Zbu with ⟨q1,q2,q3⟩ | ⟨g,cE,q1,-⟩
    · have:B.length=0:=q2;omega
    · exact⟨g,c,by rw[show ao=some ⟨g,0,none⟩ from q1]⟩
  have ef:B.length<=c:=by
    rcases x2.ZbH.Zbu with ⟨q1,q2,q3⟩ | ⟨g2,cE,q1,q2,q3,-⟩
    · cases q1
    · exact q3
  have b0:K.cell? ⟨g,0,none⟩=some (string (B.getD 0 ⟨#[]⟩)):=by
    rw[fO B 0 (by omega)];exact x2.ZbH.cell rfl 0 _ (pV B 0 (by omega))
  have d7:g<K.heap.size:=x2.ZbH.lt rfl;have dk:Xq (∀x f,aa [] K f->Calls prog 148 #[slice (some ⟨g,0,none⟩) B.length c,string x] f fun e C=>e=returned (bool (kM B x==1))/\C=f):=fun x f k=>Ph ⟨some ⟨g,0,none⟩,c⟩ B x f (x2.ZbH.view.Zbj k) (by omega);have bp:Xq (w.heap.size<g/\g<K.heap.size):=by
    have:=x2.far g rfl;have:=d3.o;have:=am.o;exact⟨by omega,d7⟩
  have bl:Xq (K.heap[rb]?=some (.cells #[string ⟨#[]⟩,slice none 0 0,slice none 0 0,slice none 0 0,string ⟨#[]⟩] 185)):=x2.Zbw.get cg.o (by simp);have ax:Xq _:=co.o.trans x2.Zbw;have ch:Xq _:=xq x2.ZbH;have eP:(0:Int)<B.length:=by omega
  have eT:(1:Int)<=B.length:=by omega
  have eV:1<=B.length:=by omega
  have er:1<=c:=by omega
  have es:(B.length:Int)<=(c:Int):=by omega
  have bm:Xq ((B.drop 1).length=B.length-1):=cm (by simp);generalize B.getD 0 ⟨#[]⟩=G at *;clear x2 k2 cB;obtain⟨M,HM⟩:=aP ((B.drop 1).length);have ep:M<=10000:=by rw[<-HM.o,bm.o];omega
  rcases Zao 1 c with d6 | d6
  all_goals first
    | (have et:¬c=1:=by omega
       have eg:¬c-1=0:=(by omega);obtain⟨n,Hv,bx,bq⟩:∃n:Hd,Xq (slice (some ⟨g,1,none⟩) (B.length-1) (c-1)=slice n.ao M n.cap)/\Xq (dB K n (B.drop 1))/\Xq (∀x,n.Zbx=some x->w.heap.size<x/\x<K.heap.size):=⟨⟨some ⟨g,1,none⟩,c-1⟩,(by show _=_;rw[<-HM.o,bm.o]),ch.o,fun x e=>by cases e;exact bp.o⟩
       go_region)
    | (obtain rfl:c=1:=by omega
       have h0:B.drop 1=[]:=XY (by rw[bm.o];omega);obtain⟨n,Hv,bx,bq⟩:∃n:Hd,Xq (slice (some ⟨g,0,none⟩) 0 0=slice n.ao M n.cap)/\Xq (dB K n (B.drop 1))/\Xq (∀x,n.Zbx=some x->w.heap.size<x/\x<K.heap.size):=⟨⟨some ⟨g,0,none⟩,0⟩,(by show _=_;rw[<-HM.o,h0];rfl),XQ h0,fun x e=>by cases e;exact bp.o⟩
       clear h0
       go_region)
  all_goals (
    rw[Hv.o];clear Hv ch;obtain⟨X3,bz⟩:=aP ((K.alloc (.cells #[string G,slice n.ao M n.cap,slice none 0 0,slice none 0 0,string I] 185)).drew);have k3:aa [] K X3:=by rw[<-bz.o];exact(bH.alloc _).drew
    have B3:X3.heap[K.heap.size]?=some (.cells #[string G,slice n.ao M n.cap,slice none 0 0,slice none 0 0,string I] 185):=(by rw[<-bz.o];exact XD _ _);obtain⟨P,bw⟩:=aP (K.heap.size);rw[bw.o]at B3;rw[bz.o,bw.o];have ct:Xq _:=dp.o X3 (ax.o.trans k3);have c5:Xq _:=B3;have c9:Xq _:=k3;clear k3 B3;have HZ:Xq (∀f,aa [] K f->(f.cell? ⟨rb,0,none⟩=some (string ⟨#[]⟩)/\f.cell? ⟨rb,1,none⟩=some (slice none 0 0)/\f.cell? ⟨rb,2,none⟩=some (slice none 0 0)/\f.cell? ⟨rb,3,none⟩=some (slice none 0 0)/\f.cell? ⟨rb,4,none⟩=some (string ⟨#[]⟩))/\(∀i,f.frozen? ⟨rb,i,none⟩=false)/\rb<f.heap.size):=fun f k=>by
      have B:=k.get bl.o (by simp);exact⟨⟨by rw[ab B];rfl,by rw[ab B];rfl,by rw[ab B];rfl,by rw[ab B];rfl,by rw[ab B];rfl⟩,zcW B,ah B⟩
    have aT:Xq (K.heap.size<=P):=Y5 bw.o;have ac:Xq (∀w6 wr l p H a4 C,aa [] K w6->BQ w6 wr P G I n M l p H->IS=a4->(a4=true->PP=⟨I,G,B.drop 1,l,p⟩/\p.length=l.length/\l.length<=100000)->aa [rb] wr C->LX PP IS w (returned (tuple #[agg #[string G,slice n.ao M n.cap,slice (H 0).ao l.length (H 0).cap,slice (H 1).ao p.length (H 1).cap,string I],bool a4])) C):=fun w6 wr l p H a4 C k6 h e hP k=>by
      rw[e];exact h.ZbC HM.o k6 aT.o bx.o bq.o am.o ax.o (ah bl.o) k (fun q=>⟨(hP q).1,(hP q).2.1,by omega,(hP q).2.2⟩)
    clear bx bq bl bp;(go_upto_region 5 with (go_at_call 63;refine Xx ct.o ?_;rintro e4 w4 ⟨h4,rfl,x4⟩));have bk:Xq (w4.heap[P]?=some (.cells #[string G,slice n.ao M n.cap,slice none 0 0,slice none 0 0,string I] 185)):=x4.Zbw.get c5.o (by simp);have az:Xq _:=c9.o.trans x4.Zbw;clear x4 ct;by_cases b4:PR.length=0
    · have ec:¬(PR.length:Int) > 0:=by omega
      have cV:¬0<PR.length:=(by omega);have HE:Xq (IS=y.all (KQ d S q)):=by
        show _=_;rw[br.o,XY b4];rfl
      have cj:Xq _:=cl.o w4 (ax.o.trans az.o);clear br cl;(go_upto_region 8 with (go_at_call 61;refine Xx cj.o ?_;rintro e6 w6 ⟨h6,rfl,x6⟩));have ds:Xq (BQ w6 w6 P G I n M [] [] (fun _=>⟨none,0⟩)):=BQ.start (x6.Zbw.get bk.o (by simp));have af:Xq _:=az.o.trans x6.Zbw;have ck:Xq (∀k (hk:k<y.length),∃gh,h6.ao=some ⟨gh,0,none⟩/\∀f,aa [P] w6 f->gh<f.heap.size/\f.cell? ⟨gh,k,none⟩=some (int i64 y[k])):=fun k hk=>by
        obtain⟨gh,e,hl,c0⟩:=x6.ZbH.srcN k y[k] (Xv hk);refine⟨gh,e,fun f q=>?_⟩;have eb:gh∉[P]:=fun z=>by
          have h1:=x6.far gh (by unfold Hd.Zbx;rw[e];rfl);have h2:=ah bk.o;rw[XH.1 z]at h1;omega
        exact⟨XB hl q.size,by rw[XJ (q.block gh hl eb)];exact c0⟩
      clear x6 cj;obtain⟨iS,cH,bf,bg,bj⟩:=XV i9;obtain⟨AO,ca⟩:=aP (h6.ao);rw[ca.o]at ck;go_wp2;rw[ca.o]
      go_loopg [11] y.length (fun gk iv wr=>∃(k:Nat) (l p:Xs) (H:Nat->Hd),k<=y.length/\gk=y.length-k/\iv=int i64 k/\l.length=k/\p.length=k/\Xq (l=(y.take k).map (fun j=>(aU d S j).getD 1 ⟨#[]⟩))/\Xq (p=(y.take k).map (fun j=>(aU d S j).getD 0 ⟨#[]⟩))/\Xq ((y.take k).all (KQ d S q)=true)/\Xq (BQ w6 wr P G I n M l p H))
      · exact⟨0,[],[],_,by omega,rfl,rfl,rfl,rfl,rfl,rfl,rfl,ds⟩
      obtain⟨k,l,p,H,eL,ey,rfl,c2,c1,cz,cy,b8,HR⟩:=hrel;have an:Xq _:=c2;have a3:Xq _:=c1;clear c2 c1;rcases kn k y.length with ⟨X,eH⟩ | ⟨X,-⟩
      · obtain⟨gh,eh,b2⟩:=ck.o k X
        have c8:Xq _:=b2;subst eh;obtain⟨ex,c0⟩:=b2 _ HR.o.kp;obtain⟨hj,d8,eA,d9⟩:=db.o _ (XM X);have b1:aa [] w wr:=ax.o.trans (HR.o.old af.o aT.o);have c6:Xq _:=(cc.o y[k] hj (by rw[d8];simp) _ b1);have dt:Xq _:=(fun f (z:aa [] wr f)=>dT.o y[k] hj f (b1.trans z));have a5:Xq _:=dv.o y[k];have d2:Xq (l++[(aU d S y[k]).getD 1 ⟨#[]⟩]=(y.take (k+1)).map (fun j=>(aU d S j).getD 1 ⟨#[]⟩)):=cm (by rw[qh _ _ _ X,cz.o]);have d0:Xq (p++[(aU d S y[k]).getD 0 ⟨#[]⟩]=(y.take (k+1)).map (fun j=>(aU d S j).getD 0 ⟨#[]⟩)):=cm (by rw[qh _ _ _ X,cy.o]);have ai:Xq (KQ d S q y[k]=true->(y.take (k+1)).all (KQ d S q)=true):=fun z=>by
          rw[Yc X,List.all_append,b8.o];simp[z]
        have Q:Xq (KQ d S q y[k]=false->IS=false):=fun z=>by
          rw[HE.o,ZK];exact⟨y[k],XM X,by rw[z];simp⟩
        have cL:(y[k]:Int)<S.length:=(by have:=bs.o.1;omega);have eE:y[k]<=10000:=(by have:=bs.o;omega);rw[a5.o]at ai Q;generalize y[k]=jj at *;generalize (ay S jj).k=kk at *;generalize aU d S jj=F at *;clear b2 a5 b1;(go_upto_region 12 with (go_at_call 71;refine Xx c6.o ?_;rintro e7 w7 ⟨h7,rfl,x7⟩));obtain⟨y1,eq,gS,eS,cF,y2⟩:=dt.o w7 x7.Zbw;rw[eS]at y1;obtain⟨ek,c7⟩:=c8.o w7 (HR.o.kp.trans (x7.Zbw.mono (by simp)));have cv:Xq _:=HR.o.Zbj x7.Zbw;have ag:Xq _:=x7;have cs:Xq _:=HR.o.old af.o aT.o;clear x7;cases b3:(kk.toList == [36,101])
        · have d4:=d9 b3
          rw[b3]at ai Q;obtain⟨E,cf,rfl⟩:∃E cf,h7=⟨some ⟨E,0,none⟩,cf⟩:=by
            obtain⟨ao,cf⟩:=h7;rcases ag.o.ZbH.Zbu with ⟨q1,q2,q3⟩ | ⟨E,cE,q1,-⟩
            · have:F.length=0:=q2;omega
            · exact⟨E,cf,by rw[show ao=some ⟨E,0,none⟩ from q1]⟩
          have bo:Xq (∀i (hi:i<F.length),w7.cell? ⟨E,i,none⟩=some (string (F.getD i ⟨#[]⟩))):=fun i hi=>by
            rw[fO F i hi];exact ag.o.ZbH.cell rfl i _ (pV F i hi)
          have ad:Xq (E<w7.heap.size/\E≠P/\¬eG H E):=by
            have h1:=ag.o.far E rfl;have h2:=HR.o.bag.lt;exact⟨ag.o.ZbH.lt rfl,by omega,fun z=>by have:=HR.o.bag.inlt z;omega⟩
          go_quiet (fail);obtain⟨Y,ap⟩:=aP (w7.drewN nq);rw[ap.o];have kY:aa [] w7 Y:=(by rw[<-ap.o];exact bH.drewN nq);have J:Xq _:=cv.o.Zbj kY;have f1:Y.cell? ⟨E,1,none⟩=some (string (F.getD 1 ⟨#[]⟩)):=(by rw[XJ (kY.block E ad.o.1 (by simp))];exact bo.o 1 d4);have f0:Y.cell? ⟨E,0,none⟩=some (string (F.getD 0 ⟨#[]⟩)):=(by rw[XJ (kY.block E ad.o.1 (by simp))];exact bo.o 0 (by omega));have bc:E<Y.heap.size:=XB ad.o.1 kY.size;have R:Xq (aa [] K Y):=cs.o.trans (ag.o.Zbw.trans kY);have HO:Xq _:=dk.o (F.getD 1 ⟨#[]⟩) Y R.o;have ej:(1:Int)<F.length:=(by omega);have ei:(0:Int)<F.length:=(by omega);obtain⟨u0,u1,u2,u3,u4,b5⟩:=J.o.cells;generalize F.getD 1 ⟨#[]⟩=D at *;generalize F.getD 0 ⟨#[]⟩=L at *;clear kY c7 y1 y2 eS bo c0;cases cP:(kM B D==1)
          · rw[cP]at HO Q
            have HF:Xq _:=Q.o rfl;obtain⟨⟨z0,z1,z2,z3,z4⟩,zf,b7⟩:=HZ.o Y R.o;have A:Xq _:=(fun C=>ac.o w6 Y l p H false C af.o J.o HF.o (fun z=>by cases z));go_wp2_with (go_at_call 148;refine Xx HO.o ?_;rintro e8 w8 ⟨rfl,O⟩;rw[O];clear O);exact XG (v:=tuple #[agg #[string G,slice n.ao M n.cap,slice (H 0).ao l.length (H 0).cap,slice (H 1).ao p.length (H 1).cap,string I],bool false]) (by simp[results,results106,go_sem,z0,z1,z2,z3,z4]) rfl (A.o _ (tZ _ _ _ _ _ _ _))
          · rw[cP]at HO ai
            have c4:Xq _:=ai.o rfl;clear ai Q;(go_upto_region 17 with (go_at_call 148;refine Xx HO.o ?_;rintro e8 w8 ⟨rfl,O⟩;rw[O];clear O));have en:=J.o.bag.free 3;have V:Xq _:=aO.Zbj J.o.bag ((aa.refl [] Y).alloc (.cells #[string L] 9)).drew;have s2:Xq (∀j u,([string L]:List Value)[j]?=some u->(Y.alloc (.cells #[string L] 9)).drew.cell? ((⟨Y.heap.size,0,none⟩:Addr).add j)=some u):=by
              intro j u hj;have hk:(Y.alloc (.cells #[string L] 9)).drew.heap[Y.heap.size]?=some (.cells #[string L] 9):=XD _ _;rw[bE,ab hk];simpa using hj
            have s3:Xq (∀u∈([string L]:List Value),u.oneCell'=true):=(by intro u hu;simp at hu;subst hu;rfl);have s4:Xq ((aE p).n+1<=maxLen):=(by show p.length+1<=_;rw[a3.o];unfold maxLen;omega);have s5:Xq (((aE p).n+1)*16<=140737488355328):=(by show(p.length+1)*16<=_;rw[a3.o];omega);have a0:Xq _:=dy p L;have aS:Xq (∀wz H2,aO wz P 185 (Xl G I n M l (p++[L]) H2) (UB l (p++[L])) H2->aw P (Y.alloc (.cells #[string L] 9)).drew H wz H2->BQ w6 wz P G I n M l (p++[L]) H2/\wz.cell? ⟨E,1,none⟩=some (string D)/\E<wz.heap.size/\¬eG H2 E):=fun wz H2 g1 g2=>by
              have ky:aa [] Y (Y.alloc (.cells #[string L] 9)).drew:=((aa.refl [] Y).alloc (.cells #[string L] 9)).drew;have av:E<(Y.alloc (.cells #[string L] 9)).drew.heap.size:=XB bc ky.size;refine⟨(J.o.Zbj ky).turned g2 g1,?_,XB av g2.1.size,g2.fresh _ av ad.o.2.2⟩;rw[XJ (g2.1.block E av (fun z=>by rcases z with z | z;exact ad.o.2.1 z;exact ad.o.2.2 z)),XJ (ky.block E bc (by simp))];exact f1
            clear J R HO u0 u1 u2 u4;go_region_law (refine bB rfl (.tmp 71) (.tmp 75) 61 rfl iS (string ⟨#[]⟩) 16 (H 1) (aE p) underlying61 cH bf bg bj rfl XR (by simp[Act.eval] <;> rfl) (aO.ZbH V.o 1) ⟨Y.heap.size,0,none⟩ 1 1 [string L] (by simp[Act.eval]) rfl s2.o s3.o XR s4.o s5.o ?_;intro g8 N w8 O bd a7;obtain⟨k8,f8,bv⟩:=aO.app V.o (cs':=Xl G I n M l (p++[L]) (gj H 1 ⟨some ⟨g8,0,none⟩,N⟩)) (rows':=UB l (p++[L])) 3 1 g8 N (p.length+1) _ O a0.o bd (by simpa using a7) (zba l p _) _ rfl (by simp[Xl,gj]);clear O bd a7)
            all_goals (
              obtain⟨W9,cA⟩:=aP (w8.setCell ⟨P,3,none⟩ (slice (some ⟨g8,0,none⟩) ((aE p).n+1) N));have cR:=aS.o _ _ bv.o.1 bv.o.2;rw[show w8.setCell ⟨P,3,none⟩ (slice (some ⟨g8,0,none⟩) (p.length+1) N)=W9 from cA.o]at cR;rw[cA.o];generalize gj H 1 ⟨some ⟨g8,0,none⟩,N⟩=H9 at *;obtain⟨cX,f9,ev,eX⟩:=cR;have al:Xq _:=cX;have d1:Xq ((p++[L]).length=k+1):=cm (by rw[XC,a3.o];rfl);generalize p++[L]=Z at *;clear bv aS V s2 s3 s4 s5 a0 f0 f1 cX k8 f8 u3;obtain⟨-,-,v2,-,-,em⟩:=al.o.cells;have ed:=al.o.bag.free 2;have V:Xq _:=aO.Zbj al.o.bag ((aa.refl [] W9).alloc (.cells #[string D] 9)).drew;have s2:Xq (∀j u,([string D]:List Value)[j]?=some u->(W9.alloc (.cells #[string D] 9)).drew.cell? ((⟨W9.heap.size,0,none⟩:Addr).add j)=some u):=by
                intro j u hj;have hk:(W9.alloc (.cells #[string D] 9)).drew.heap[W9.heap.size]?=some (.cells #[string D] 9):=XD _ _;rw[bE,ab hk];simpa using hj
              have s3:Xq (∀u∈([string D]:List Value),u.oneCell'=true):=(by intro u hu;simp at hu;subst hu;rfl);have s4:Xq ((aE l).n+1<=maxLen):=(by show l.length+1<=_;rw[an.o];unfold maxLen;omega);have s5:Xq (((aE l).n+1)*16<=140737488355328):=(by show(l.length+1)*16<=_;rw[an.o];omega);have a0:Xq _:=dy l D;have aS:Xq (∀wz H2,aO wz P 185 (Xl G I n M (l++[D]) Z H2) (UB (l++[D]) Z) H2->aw P (W9.alloc (.cells #[string D] 9)).drew H9 wz H2->BQ w6 wz P G I n M (l++[D]) Z H2):=fun wz H2 g1 g2=>(al.o.Zbj ((aa.refl [] W9).alloc (.cells #[string D] 9)).drew).turned g2 g1;clear al;(go_upto_region 18 with fail);go_region_law (refine bB rfl (.tmp 79) (.tmp 83) 61 rfl iS (string ⟨#[]⟩) 16 (H9 0) (aE l) underlying61 cH bf bg bj rfl XR (by simp[Act.eval] <;> rfl) (aO.ZbH V.o 0) ⟨W9.heap.size,0,none⟩ 1 1 [string D] (by simp[Act.eval]) rfl s2.o s3.o XR s4.o s5.o ?_;intro ga a6 wa c3 be ba;obtain⟨ka,fa,cu⟩:=aO.app V.o (cs':=Xl G I n M (l++[D]) Z (gj H9 0 ⟨some ⟨ga,0,none⟩,a6⟩)) (rows':=UB (l++[D]) Z) 2 0 ga a6 (l.length+1) _ c3 a0.o be (by simpa using ba) (zbb l _ Z) _ rfl (by simp[Xl,gj]);clear c3 be ba)
              all_goals go_wp2
              all_goals go_roundg (y.length-(k+1))
              all_goals first | omega | exact⟨k+1,l++[D],Z,_,by omega,rfl,by go_num,by rw[XC,an.o];rfl,d1.o,d2,d0,c4,aS.o _ _ cu.o.1 cu.o.2⟩)
        · rw[b3]at Q
          have HF:Xq _:=Q.o rfl;go_quiet (fail);obtain⟨Y,ap⟩:=aP (w7.drewN nq);rw[ap.o];have kY:aa [] w7 Y:=(by rw[<-ap.o];exact bH.drewN nq);have J:Xq _:=cv.o.Zbj kY;have R:Xq (aa [] K Y):=cs.o.trans (ag.o.Zbw.trans kY);obtain⟨u0,u1,u2,u3,u4,b5⟩:=J.o.cells;obtain⟨⟨z0,z1,z2,z3,z4⟩,zf,b7⟩:=HZ.o Y R.o;have A:Xq _:=(fun C=>ac.o w6 Y l p H false C af.o J.o HF.o (fun z=>by cases z));clear kY c7 y1 y2 eS c0;go_wp2;exact XG (v:=tuple #[agg #[string G,slice n.ao M n.cap,slice (H 0).ao l.length (H 0).cap,slice (H 1).ao p.length (H 1).cap,string I],bool false]) (by simp[results,results106,go_sem,z0,z1,z2,z3,z4]) rfl (A.o _ (tZ _ _ _ _ _ _ _))
      · obtain rfl:k=y.length:=by omega
        have R:Xq (aa [] K wr):=HR.o.old af.o aT.o;obtain⟨u0,u1,u2,u3,u4,b5⟩:=HR.o.cells;obtain⟨⟨z0,z1,z2,z3,z4⟩,zf,b7⟩:=HZ.o wr R.o;have HF:Xq (IS=true):=by
          show _=_;have:=b8.o;rw[Yl]at this;rw[HE.o];exact this
        have dl:Xq (PP=⟨I,G,B.drop 1,l,p⟩):=by
          show _=_;have h1:=cz.o;have h2:=cy.o;rw[Yl]at h1 h2;rw[dz.o,<-h1,<-h2]
        have A:Xq _:=(fun C=>ac.o w6 wr l p H true C af.o HR.o HF.o (fun _=>⟨dl.o,by rw[a3.o,an.o],by rw[an.o];omega⟩));go_wp2;exact XG (v:=tuple #[agg #[string G,slice n.ao M n.cap,slice (H 0).ao l.length (H 0).cap,slice (H 1).ao p.length (H 1).cap,string I],bool true]) (by simp[results,results106,go_sem,z0,z1,z2,z3,z4]) rfl (A.o _ (tZ _ _ _ _ _ _ _))
    · have ec:(PR.length:Int) > 0:=by omega
      have cV:0<PR.length:=(by omega);have HF:Xq (IS=false):=by
        show _=_;rw[br.o];cases d5:PR with
        | nil=>rw[d5]at b4;exact absurd rfl b4
        | cons a r=>rfl
      have cx:Xq (BQ w4 w4 P G I n M [] [] (fun _=>⟨none,0⟩)):=BQ.start bk.o;obtain⟨u0,u1,u2,u3,u4,b5⟩:=cx.o.cells;obtain⟨⟨z0,z1,z2,z3,z4⟩,zf,b7⟩:=HZ.o w4 az.o;have A:Xq _:=(fun C=>ac.o w4 w4 [] [] _ false C az.o cx.o HF.o (fun z=>by cases z));go_wp2;exact XG (v:=tuple #[agg #[string G,slice n.ao M n.cap,slice none 0 0,slice none 0 0,string I],bool false]) (by simp[results,results106,go_sem,z0,z1,z2,z3,z4]) rfl (A.o _ (tZ _ _ _ _ _ _ _)))
theorem RB(h:aN l a=false):bZ l a=none:=by
  unfold aN at h;rw[ZL]at h;refine jz (fun i b=>?_);rw[fO l i b];have:=h l[i] (XM b);simpa using this
theorem RC(h:aN l a=true):∃k,bZ l a=some k:=by
  cases d:bZ l a with
  | some k=>exact⟨k,rfl⟩
  | none =>
    unfold aN at h;rw[Yu]at h;obtain⟨y,e,c⟩:=h;obtain⟨i,b,rfl⟩:=Yr e;have:=YD.1 d i (XI.2 b);rw[fO l i b]at this;exact absurd c this
theorem zaC:(prog.info? 185).map (fun i=>(i.zero,i.size,i.bytes))=some (some (agg #[string ⟨#[]⟩,slice none 0 0,slice none 0 0,slice none 0 0,string ⟨#[]⟩]),5,104):=by kernel_rfl
theorem MR:∀u∈pqV N,u.oneCell'=true:=by
  intro u a;simp only[pqV,List.mem_cons,List.not_mem_nil,or_false]at a;rcases a with rfl | rfl | rfl | rfl | rfl <;> rfl
theorem Dp:(⟨(oF I).e,(oF I).size,(oF I).n+1,(oF I).xs++pqV N⟩:eD)=oF (I++[N]):=fT _ _ _ _ _
def J4(w4:World)(gq:Nat)(w:World)(H:Nat->Hd):Prop:=aa [gq] w4 w/\∀k,eG H k->w4.heap.size<=k
theorem J4.Zbj(h:J4 x f y k)(a:aa [] y L):J4 x f L k:=⟨h.1.trans (a.mono (by simp)),h.2⟩
theorem J4.turned{a:Nat->Hd}(h:J4 x f y k)(t:aw f y k L a):J4 x f L a:=by
  refine⟨⟨t.1.os.trans h.1.os,t.1.tape.trans h.1.tape,t.1.output.trans h.1.output,XF h.1.size t.1.size,fun i b c=>?_⟩,fun d e=>?_⟩
  · refine(t.1.block i (XB b h.1.size) (fun q=>?_)).trans (h.1.block i b c)
    rcases q with q | q
    · exact c (by simp[q])
    · have:=h.2 i q;omega
  · rcases t.2 d e with q | q
    · exact h.2 d q
    · exact XF h.1.size q
theorem sC.start(j:l.length=D)(h:y.heap[f]?=some (.cells #[slice none 0 0,slice d.ao D d.cap,slice none 0 0,slice none 0 0] 183))(k:aa [] x y)(n:x.heap.size<=f)(v:dB y d l)(c:∀g,d.Zbx=some g->g≠f/\g<y.heap.size):sC x y f [] d l [] [] (fun _=>⟨none,0⟩):=by
  subst j;refine⟨⟨h,fun i=>?_,fun _ _ _=>XQ rfl,(fun i e=>by cases e)⟩,k,n,(fun k ⟨i,e⟩=>by cases e),(fun m a=>by cases a),(fun m a=>by cases a),v,(fun g e=>⟨(c g e).1,(fun⟨i,q⟩=>by cases q),(c g e).2⟩),(fun r b=>by cases b),(fun r b=>by cases b),List.nodup_nil⟩
  match i with
  | 0=>exact XE _ _ _ _
  | 1=>exact XE _ _ _ _
  | 2=>exact XE _ _ _ _
  | i+3=>exact XE _ _ _ _
structure LS(Qs:List mJ)(k:Nat)(codes:Xs):Prop where
  dist:vK codes
  len:codes.length<=k
  cov:∀i,i<k->∀m,Qs[i]?=some m->∃z,bZ codes m.P.code=some z
theorem LS.start:LS I 0 []:=⟨fun _ _ _ h=>absurd h (Zh _),Xy _,fun _ h=>absurd h (Zh _)⟩
theorem LS.skip(h:LS i f l)(c:f<i.length)(d:aN l i[f].P.code=true):LS i (f+1) l:=by
  refine⟨h.dist,by have:=h.len;omega,fun b g m a=>?_⟩;by_cases e:b<f
  · exact h.cov b e m a
  · obtain rfl:b=f:=by omega
    rw[Xv c]at a;cases a
    exact RC d
theorem LS.add(h:LS i f l)(d:f<i.length)(g:aN l i[f].P.code=false):LS i (f+1) (l++[i[f].P.code]):=by
  have c:=RB g;refine⟨Je h.dist c,by rw[XC];have:=h.len;simp;omega,fun b k m a=>?_⟩;by_cases e:b<f
  · obtain⟨z,j⟩:=h.cov b e m a
    exact⟨z,Ap _ _ _ _ j⟩
  · obtain rfl:b=f:=by omega
    rw[Xv d]at a;cases a
    exact⟨_,Ii _ _ c⟩
theorem LS.done(h:LS i i.length l):∀P∈cY i,∃k,bZ l P.code=some k:=fun P b=>by
  obtain⟨m,c,rfl⟩:=YN.1 b;obtain⟨d,a,rfl⟩:=Yr c;exact h.cov d a _ (Xv a)
theorem Dk:cY (I++[N])=cY I++[N.P]:=by simp[cY]
theorem Gq{α:Type}(p:α->Bool)(x:α):[x].filter p=if p x=true then [x] else []:=by cases h:p x <;> simp[h]
def VD(T:List Tk)(S:List Sm)(HY:Xu)(k:Nat):List dZ:=((HY.take k).filter (fun j=>(ay S j).k.toList == [36,102])).map (Uy T S)
theorem Sb(a:Xu)(k:Nat)(h:k<a.length):VD v S a (k+1)=VD v S a k++(if((ay S a[k]).k.toList == [36,102])=true then [Uy v S a[k]] else []):=by
  unfold VD;rw[Yc h,Yy,Yj];congr 1;rw[Gq];cases (ay S a[k]).k.toList == [36,102] <;> rfl
def Xk(T:List Tk)(S:List Sm)(k:Nat):List dZ:=((List.range k).filter (fun b=>((ay S b).k.toList == [36,97])&&rY T S b)).map (UA T S)
theorem Tl:Xk v S (b+1)=Xk v S b++(if(((ay S b).k.toList == [36,97])&&rY v S b)=true then [UA v S b] else []):=by
  unfold Xk;rw[YG,Yy,Yj];congr 1;rw[Gq];cases ((ay S b).k.toList == [36,97])&&rY v S b <;> rfl
theorem SN:tw v S b=VD v S (bW v S b) (bW v S b).length++Xk v S b:=by unfold tw VD Xk;rw[Yl]
def Xp(Ps:List dZ)(tx:Xs)(w:World)(e:Ending)(w':World):Prop:=∃gq Qs hp hx hc hn codes rb G,e=returned (pointer (some ⟨gq,0,none⟩))/\cY Qs=Ps/\Nr w' gq Qs hp hx hc hn tx codes rb G/\aa [] w w'
theorem Tm(l:List Tk)(a3:Xt)(cT:Nat)(S:List Sm)(am:Xt)(cS:Nat)(w:World)(hD:gM w T l a3 cT S am cS)(ok:pE l S b)(hB:CB l S b)(bz:b<S.length)(hE:dA l (ay S b).h)(dT:0<(aU l S b).length)(d1:(aU l S b).length<=101)(cE:∀P∈tw l S b,ki P) :
    Calls prog 72 #[pointer (some ⟨T,0,none⟩),int i64 b] w fun e E=>Xp (tw l S b) ((aU l S b).drop 1) w e E:=by
  have cx:∀k:Xr,aK k=true->cD k=false:=fun k h=>by
    unfold aK at h;rw[Yo]at h;rcases h with h | h <;> exact iq h (by decide)
  have b8:Xq (∀v,aa [] w v->Calls prog 71 #[pointer (some ⟨T,0,none⟩),int i64 b] v fun e E=>∃h',e=returned (slice h'.ao (aU l S b).length h'.cap)/\xf v E h' (aU l S b)):=fun v k=>by
    have:=jI T b l a3 cT S am cS v (hD.Zbj k) bz ok.ok.t (by rw[bA];exact hE);rw[bA]at this;exact this
  have ch:Xq (∀v,aa [] w v->Calls prog 61 #[pointer (some ⟨T,0,none⟩),int i64 b] v fun e E=>∃h',e=returned (slice h'.ao (bW l S b).length h'.cap)/\iG v E h' (bK (bW l S b))):=fun v k=>oM T b l a3 cT S am cS v (hD.Zbj k) ok bz hE;have cj:Xq (∀j∈bW l S b,j<b/\(((ay S j).k.toList == [36,102])=true->∀v,aa [] w v->Calls prog 105 #[pointer (some ⟨T,0,none⟩),int i64 j] v fun e E=>WS (Uy l S j) v e E)):=fun j hj=>by
    obtain⟨h1,h2,h3⟩:=tY l S b j hj;obtain⟨a1,a2⟩:=hB j h1 (by rw[h3];simp);exact⟨h1,fun hk v q=>Pg T j l a3 cT S am cS v (hD.Zbj q) (by omega) ok.tm (ok.e j h1 h2) (ok.ok.a j h1) (a2 hk)⟩
  have ct:Xq (∀q,q<b->((ay S q).k.toList == [36,97])=true->∀v,aa [] w v->Calls prog 106 #[pointer (some ⟨T,0,none⟩),int i64 q] v fun e E=>LX (UA l S q) (rY l S q) v e E):=fun q hq hk v k=>Pu T b q l a3 cT S am cS v (hD.Zbj k) ok hB hq (by unfold aG;rw[hk];simp);have bv:Xq (∀j,j<b->∀v,aa [] w v->v.cell? ⟨T,1,none⟩=some (slice am S.length cS)/\T<v.heap.size/\∃gS,am=some ⟨gS,0,none⟩/\gS<v.heap.size/\v.cell? ⟨gS,j*4+3,none⟩=some (string (ay S j).k)):=fun j hj v k=>by
    have b4:j<S.length:=(by omega);obtain⟨gS,e1,bT,-,-,-,q3⟩:=(hD.Zbj k).s.2 j S[j] (Xv b4);rw[bA]at q3;exact⟨(hD.Zbj k).cells.2.1,(hD.Zbj k).cells.2.2,gS,e1,bT,q3⟩
  have cq:Xq (b<S.length/\S.length<=10000):=⟨bz,ok.sm⟩;have dz:b<=10000:=by have:=ok.sm;omega
  have d7:(bW l S b).length<=10000:=by
    have h1:(bW l S b).length<=b:=(by unfold bW;have:=YE (vi l S b (Bz l S b)) (List.range b);rw[YW]at this;exact this);omega
  have cs:Xq _:=SN l S b;have c1:Xq _:=cE;obtain⟨W,HW⟩:=aP (w.alloc (.cells #[slice none 0 0,slice none 0 0,slice none 0 0,slice none 0 0] 183));have kW:=dx HW.o;have BZ:=dC HW.o;have b7:Xq _:=b8.o W kW;have cX:Xq _:=kW;have ca:Xq _:=BZ;obtain⟨f,be⟩:=aP (w.heap.size);rw[be.o]at ca;have co:Xq (w.heap.size<=f):=Y5 be.o;have c4:Xq (W.heap.size=f+1):=cm (by rw[<-HW.o,<-be.o];simp);generalize tw l S b=PP at *;generalize aU l S b=B at *;generalize bW l S b=U at *;clear hD kW BZ ok hB cx hE cE b8;go_enter func72,ntmps72;go_upto_region 2 with fail
  rw[HW.o,be.o];go_upto_region 3 with (go_at_call 71;refine Xx b7.o ?_;rintro e1 w2 ⟨h1,rfl,x2⟩)
  obtain⟨g,c,rfl⟩:∃g c,h1=⟨some ⟨g,0,none⟩,c⟩:=by
    obtain⟨ao,c⟩:=h1;rcases x2.ZbH.Zbu with ⟨q1,q2,q3⟩ | ⟨g,c5,q1,-⟩
    · have:B.length=0:=q2;omega
    · exact⟨g,c,by rw[show ao=some ⟨g,0,none⟩ from q1]⟩
  have dp:B.length<=c:=by
    rcases x2.ZbH.Zbu with ⟨q1,q2,q3⟩ | ⟨g2,c5,q1,q2,q3,-⟩
    · cases q1
    · exact q3
  have bp:Xq (f<g/\g<w2.heap.size):=by
    have:=x2.far g rfl;have:=c4.o;exact⟨by omega,x2.ZbH.lt rfl⟩
  have ax:Xq (w2.heap[f]?=some (.cells #[slice none 0 0,slice none 0 0,slice none 0 0,slice none 0 0] 183)):=x2.Zbw.get ca.o (by simp);have cV:Xq _:=cX.o.trans x2.Zbw;have cb:Xq _:=xq x2.ZbH;obtain⟨-,z1,-⟩:=zU ax.o;have zf:=zcW ax.o 1;have cz:=ah ax.o;have d9:(1:Int)<=B.length:=by omega
  have ea:1<=B.length:=by omega
  have d3:1<=c:=by omega
  have d4:(B.length:Int)<=(c:Int):=by omega
  have bc:Xq ((B.drop 1).length=B.length-1):=cm (by simp);clear x2 b7;obtain⟨M,HM⟩:=aP ((B.drop 1).length);have dv:M<=100:=by rw[<-HM.o,bc.o];omega
  rcases Zao 1 c with c7 | c7
  all_goals first
    | (have d6:¬c=1:=by omega
       have ds:¬c-1=0:=(by omega);obtain⟨r,Hv,bj,bd⟩:∃r:Hd,Xq (slice (some ⟨g,1,none⟩) (B.length-1) (c-1)=slice r.ao M r.cap)/\Xq (dB w2 r (B.drop 1))/\Xq (∀x,r.Zbx=some x->f<x/\x<w2.heap.size):=⟨⟨some ⟨g,1,none⟩,c-1⟩,(by show _=_;rw[<-HM.o,bc.o]),cb.o,fun x e=>by cases e;exact bp.o⟩
       go_upto_region 4 with fail)
    | (obtain rfl:c=1:=by omega
       have h0:B.drop 1=[]:=XY (by rw[bc.o];omega);obtain⟨r,Hv,bj,bd⟩:∃r:Hd,Xq (slice (some ⟨g,0,none⟩) 0 0=slice r.ao M r.cap)/\Xq (dB w2 r (B.drop 1))/\Xq (∀x,r.Zbx=some x->f<x/\x<w2.heap.size):=⟨⟨some ⟨g,0,none⟩,0⟩,(by show _=_;rw[<-HM.o,h0];rfl),XQ h0,fun x e=>by cases e;exact bp.o⟩
       clear h0
       go_upto_region 4 with fail)
  all_goals (
    rw[Hv.o];clear Hv cb;obtain⟨K,cu⟩:=aP (B.drop 1);rw[cu.o]at bj HM;clear bc;obtain⟨W3,bk⟩:=aP (w2.setCell ⟨f,1,none⟩ (slice r.ao M r.cap));have B3:W3.heap[f]?=some (.cells #[slice none 0 0,slice r.ao M r.cap,slice none 0 0,slice none 0 0] 183):=by rw[<-bk.o];exact ae ax.o _ _
    have k3:aa [] w W3:=(by rw[<-bk.o];exact cV.o.setCell (XK co.o) _);have b5:aa [f] w2 W3:=(by rw[<-bk.o];exact(aa.refl _ _).sl1 _);rw[bk.o];have cf:Xq (sC w W3 f [] r K [] [] (fun _=>⟨none,0⟩)):=sC.start HM.o B3 k3 co.o (bj.o.Zbw b5 (fun x e q=>by have:=bd.o x e;rw[XH.1 q]at this;omega)) (fun x e=>by have:=bd.o x e;have:=b5.size;exact⟨by omega,by omega⟩);have cg:Xq _:=ch.o W3 k3;have c8:=ah B3;clear B3 k3 b5 bj bd ch ax bp z1 zf;(go_upto_region 5 with (go_at_call 61;refine Xx cg.o ?_;rintro e4 w4 ⟨h4,rfl,x4⟩));have cP:Xq _:=cf.o.Zbj x4.Zbw;have bq:Xq (∀k (hk:k<U.length),∃gh,h4.ao=some ⟨gh,0,none⟩/\∀v,aa [f] w4 v->gh<v.heap.size/\v.cell? ⟨gh,k,none⟩=some (int i64 U[k])):=fun k hk=>by
      obtain⟨gh,e,hl,c0⟩:=x4.ZbH.srcN k U[k] (Xv hk);refine⟨gh,e,fun v q=>?_⟩;have dl:gh∉[f]:=fun z=>by
        have h1:=x4.far gh (by unfold Hd.Zbx;rw[e];rfl);rw[XH.1 z]at h1;omega
      exact⟨XB hl q.size,by rw[XJ (q.block gh hl dl)];exact c0⟩
    clear x4 cg cf cz c8;obtain⟨iP,b3,a6,a7,ba⟩:=XV zaC;obtain⟨AO,b6⟩:=aP (h4.ao);rw[b6.o]at bq;go_wp2;rw[b6.o]
    go_loopg [8] U.length (fun gk iv wr=>∃(k:Nat) (d:List mJ) (H:Nat->Hd),k<=U.length/\gk=U.length-k/\iv=int i64 k/\Xq (cY d=VD l S U k)/\Xq (d.length<=k)/\Xq (sC w wr f d r K [] [] H/\J4 w4 f wr H))
    case atStart=>exact⟨0,[],_,by omega,rfl,rfl,rfl,Xy _,cP.o,⟨aa.refl _ _,(fun k ⟨i,e⟩=>by cases e)⟩⟩
    case round =>
      obtain⟨k,d,H,dk,cy,rfl,V,A,O⟩:=hrel;rcases kn k U.length with ⟨C,df⟩ | ⟨C,-⟩
      · obtain⟨gh,eh,b2⟩:=bq.o k C
        have cR:Xq _:=b2;subst eh;obtain⟨b0,c0⟩:=b2 _ O.o.2.1;obtain⟨db,cB⟩:=cj.o _ (XM C);have cl:Xq _:=cB;obtain⟨y1,c6,gS,eS,bT,y2⟩:=bv.o U[k] db wr O.o.1.kp;rw[eS]at y1;have N:Xq _:=Sb l S U k C;have b4:(U[k]:Int)<S.length:=(by have:=cq.o.1;omega);have d8:U[k]<=10000:=(by omega);generalize U[k]=jj at *;generalize (ay S jj).k=kk at *;generalize Uy l S jj=LF at *;clear b2 cB;cases an:(kk.toList == [36,102])
        · rw[an,Xz (by simp),Ya]at N
          (go_upto_region 8 with fail);go_quiet (fail);obtain⟨Y,R⟩:=aP (wr.drewN nq);rw[R.o];have kY:aa [] wr Y:=(by rw[<-R.o];exact bH.drewN nq);have p:Xq (sC w Y f d r K [] [] H/\J4 w4 f Y H):=⟨O.o.1.Zbj kY,O.o.2.Zbj kY⟩;clear kY c0 y1 y2 eS;go_wp2;go_roundg (U.length-(k+1))
          · exact⟨k+1,d,H,by omega,rfl,by go_num,by show cY d=_;rw[N.o];exact V.o,by have:=A.o;show _<=_;omega,p⟩
          omega
        · rw[an,XA rfl]at N
          have ck:Xq _:=cl.o an;(go_upto_region 8 with fail);go_quiet (fail);obtain⟨Y,R⟩:=aP (wr.drewN nq);rw[R.o];have kY:aa [] wr Y:=(by rw[<-R.o];exact bH.drewN nq);have p:Xq (sC w Y f d r K [] [] H/\J4 w4 f Y H):=⟨O.o.1.Zbj kY,O.o.2.Zbj kY⟩;have ai:Xq (Calls prog 105 #[pointer (some ⟨T,0,none⟩),int i64 jj] Y fun e E=>∃m:mJ,Xq (m.P=LF)/\e=returned (agg #[string m.P.code,slice m.hb.ao m.P.body.length m.hb.cap,slice m.hv.ao m.P.vars.length m.hv.cap,slice m.ht.ao m.P.types.length m.ht.cap,string m.P.Zbz])/\qw E m/\UI Y E m/\aa [] Y E):=ck.o Y p.o.1.kp;clear kY c0 y1 y2 eS b0 ck cl;obtain⟨b0,c0⟩:=cR.o Y p.o.2.1;(go_upto_region 10 with (go_at_call 105;refine Xx ai.o ?_;rintro e7 w7 ⟨m,a5,rfl,a4,X,k7⟩));obtain⟨y,al⟩:=aP (w7.alloc (.cells #[string m.P.code,slice m.hb.ao m.P.body.length m.hb.cap,slice m.hv.ao m.P.vars.length m.hv.cap,slice m.ht.ao m.P.types.length m.ht.cap,string m.P.Zbz] 185));have D:=dx al.o;have B8:=dC al.o;obtain⟨bx,az⟩:=aP (w7.heap.size);rw[az.o]at B8;rw[al.o,az.o];obtain⟨r0,r1,r2,r3,r4⟩:=nJ B8;have r5:=ah B8;have ar:aa [] Y y:=k7.trans D;have L:Xq (sC w y f d r K [] [] H/\J4 w4 f y H):=⟨p.o.1.Zbj ar,p.o.2.Zbj ar⟩;have aT:Xq (qw y m):=a4.Zbj D;have Z:Xq (mB y f H m.hb/\mB y f H m.hv/\mB y f H m.ht):=by
            have h1:=p.o.1.bag.lt;have h2:=fun k (q:eG H k)=>p.o.1.bag.inlt q;exact⟨(X.1.far h1 h2).Zbj D,(X.2.1.far h1 h2).Zbj D,(X.2.2.far h1 h2).Zbj D⟩
          have br:Xq (cY (d++[m])=VD l S U (k+1)):=cm (by rw[Dk,N.o,V.o,a5.o]);clear B8 D k7 ar a4 X a5 c0 b0 ai;obtain⟨-,-,-,-,cA⟩:=L.o.1.cells;have d0:=L.o.1.cells.1;have cv:=L.o.1.bag.free 0;have hD:Xq _:=aO.Zbj L.o.1.bag ((aa.refl [] y).alloc (.cells #[string m.P.code,slice m.hb.ao m.P.body.length m.hb.cap,slice m.hv.ao m.P.vars.length m.hv.cap,slice m.ht.ao m.P.types.length m.ht.cap,string m.P.Zbz] 185)).drew;have s2:Xq (∀j u,([string m.P.code,slice m.hb.ao m.P.body.length m.hb.cap,slice m.hv.ao m.P.vars.length m.hv.cap,slice m.ht.ao m.P.types.length m.ht.cap,string m.P.Zbz]:List Value)[j]?=some u->(y.alloc (.cells #[string m.P.code,slice m.hb.ao m.P.body.length m.hb.cap,slice m.hv.ao m.P.vars.length m.hv.cap,slice m.ht.ao m.P.types.length m.ht.cap,string m.P.Zbz] 185)).drew.cell? ((⟨y.heap.size,0,none⟩:Addr).add j)=some u):=by
            intro j u hj;have hk:(y.alloc (.cells #[string m.P.code,slice m.hb.ao m.P.body.length m.hb.cap,slice m.hv.ao m.P.vars.length m.hv.cap,slice m.ht.ao m.P.types.length m.ht.cap,string m.P.Zbz] 185)).drew.heap[y.heap.size]?=some (.cells #[string m.P.code,slice m.hb.ao m.P.body.length m.hb.cap,slice m.hv.ao m.P.vars.length m.hv.cap,slice m.ht.ao m.P.types.length m.ht.cap,string m.P.Zbz] 185):=XD _ _;rw[bE,ab hk];simpa using hj
          have s3:Xq (∀u∈([string m.P.code,slice m.hb.ao m.P.body.length m.hb.cap,slice m.hv.ao m.P.vars.length m.hv.cap,slice m.ht.ao m.P.types.length m.ht.cap,string m.P.Zbz]:List Value),u.oneCell'=true):=MR m;have s4:Xq ((oF d).n+1<=maxLen):=(by show d.length+1<=_;have:=A.o;unfold maxLen;omega);have s5:Xq (((oF d).n+1)*104<=140737488355328):=(by show(d.length+1)*104<=_;have:=A.o;omega);have a0:Xq ((⟨(oF d).e,(oF d).size,(oF d).n+1,(oF d).xs++[string m.P.code,slice m.hb.ao m.P.body.length m.hb.cap,slice m.hv.ao m.P.vars.length m.hv.cap,slice m.ht.ao m.P.types.length m.ht.cap,string m.P.Zbz]⟩:eD)=oF (d++[m])):=Dp d m;have ac:Xq (∀wz H2,aO wz f 183 (GE (d++[m]) r K [] [] H2) (Fu (d++[m]) [] (K.length+1) []) H2->aw f (y.alloc (.cells #[string m.P.code,slice m.hb.ao m.P.body.length m.hb.cap,slice m.hv.ao m.P.vars.length m.hv.cap,slice m.ht.ao m.P.types.length m.ht.cap,string m.P.Zbz] 185)).drew H wz H2->sC w wz f (d++[m]) r K [] [] H2/\J4 w4 f wz H2):=fun wz H2 g1 g2=>by
            have Q:=((aa.refl [] y).alloc (.cells #[string m.P.code,slice m.hb.ao m.P.body.length m.hb.cap,slice m.hv.ao m.P.vars.length m.hv.cap,slice m.ht.ao m.P.types.length m.ht.cap,string m.P.Zbz] 185)).drew;exact⟨(L.o.1.Zbj Q).pushP (aT.o.Zbj Q) ⟨Z.o.1.Zbj Q,Z.o.2.1.Zbj Q,Z.o.2.2.Zbj Q⟩ g2 g1,(L.o.2.Zbj Q).turned g2⟩
          clear aT Z;go_region_law (refine bB rfl (.tmp 57) (.tmp 59) 180 rfl iP (agg #[string ⟨#[]⟩,slice none 0 0,slice none 0 0,slice none 0 0,string ⟨#[]⟩]) 104 (H 0) (oF d) underlying180 b3 a6 a7 ba rfl (by show 0<5;omega) (by simp[Act.eval] <;> rfl) (aO.ZbH hD.o 0) ⟨y.heap.size,0,none⟩ 1 1 [string m.P.code,slice m.hb.ao m.P.body.length m.hb.cap,slice m.hv.ao m.P.vars.length m.hv.cap,slice m.ht.ao m.P.types.length m.ht.cap,string m.P.Zbz] (by simp[Act.eval]) rfl s2.o s3.o XR s4.o s5.o ?_;intro ga F wa af J I;obtain⟨ka,fa,ad⟩:=aO.app hD.o (cs':=GE (d++[m]) r K [] [] (gj H 0 ⟨some ⟨ga,0,none⟩,F⟩)) (rows':=Fu (d++[m]) [] (K.length+1) []) 0 0 ga F (d.length+1) _ af a0.o J (by simpa using I) (GF d _ [] _ []) _ rfl (by simp[GE,gj]);clear af J I)
          all_goals go_wp2
          all_goals go_roundg (U.length-(k+1))
          all_goals first | omega | exact⟨k+1,d++[m],_,by omega,rfl,by go_num,br,by have:=A.o;show(d++[m]).length<=_;rw[XC];show d.length+1<=_;omega,ac.o _ _ ad.o.1 ad.o.2⟩
      · obtain rfl:k=U.length:=by omega
        have aS:Xq _:=V.o;have bf:Xq _:=A.o;have aq:Xq _:=O.o.1;clear V A O cj bq;go_wp2
        go_loopg [11] b (fun gk iv wr=>∃(n:Nat) (d:List mJ) (H:Nat->Hd),n<=b/\gk=b-n/\iv=int i64 n/\Xq (cY d=VD l S U U.length++Xk l S n)/\Xq (d.length<=U.length+n)/\Xq (sC w wr f d r K [] [] H))
        case atStart=>exact⟨0,d,H,by omega,rfl,rfl,by show cY d=_;rw[show Xk l S 0=[] from rfl,Ya];exact aS.o,bf,aq⟩
        case round =>
          clear aS bf aq;obtain⟨n,d,H,ec,cy,rfl,V,A,O⟩:=hrel;rcases kn n b with ⟨C,eb⟩ | ⟨C,-⟩
          · obtain⟨y1,c6,gS,eS,bT,y2⟩:=bv.o n C wr O.o.kp
            rw[eS]at y1;have N:Xq _:=Tl l S n;have bs:Xq _:=ct.o n C;have b4:(n:Int)<S.length:=by have:=cq.o.1;omega
            generalize UA l S n=RL at *;generalize rY l S n=ir at *;generalize (ay S n).k=kk at *;cases an:(kk.toList == [36,97])
            · rw[an,Zz,Xz (by simp),Ya]at N
              go_wp2;go_roundg (b-(n+1))
              · exact⟨n+1,d,H,by omega,rfl,by go_num,by show cY d=_;rw[N.o];exact V.o,by have:=A.o;show _<=_;omega,O⟩
              omega
            · rw[an,Y0]at N
              have bg:Xq _:=bs.o an;cases ir
              · rw[Xz (by simp),Ya]at N
                have ai:Xq (Calls prog 106 #[pointer (some ⟨T,0,none⟩),int i64 n] wr fun e E=>∃m:mJ,e=returned (tuple #[agg #[string m.P.code,slice m.hb.ao m.P.body.length m.hb.cap,slice m.hv.ao m.P.vars.length m.hv.cap,slice m.ht.ao m.P.types.length m.ht.cap,string m.P.Zbz],bool false])/\aa [] wr E):=(bg.o wr O.o.kp).mono (fun e E q=>by obtain⟨m,q1,-,q3⟩:=q;exact⟨m,q1,q3⟩);clear bg bs;go_wp2_with (go_at_call 106;refine Xx ai.o ?_;rintro e7 w7 ⟨m,rfl,k7⟩);go_roundg (b-(n+1))
                · exact⟨n+1,d,H,by omega,rfl,by go_num,by show cY d=_;rw[N.o];exact V.o,by have:=A.o;show _<=_;omega,O.o.Zbj (k7.alloc _)⟩
                omega
              · rw[XA rfl]at N
                obtain⟨Y,R⟩:=aP (wr);have p:Xq (sC w Y f d r K [] [] H):=(by rw[<-R.o];exact O.o);have ai:Xq (Calls prog 106 #[pointer (some ⟨T,0,none⟩),int i64 n] wr fun e E=>∃m:mJ,Xq (m.P=RL)/\e=returned (tuple #[agg #[string m.P.code,slice m.hb.ao m.P.body.length m.hb.cap,slice m.hv.ao m.P.vars.length m.hv.cap,slice m.ht.ao m.P.types.length m.ht.cap,string m.P.Zbz],bool true])/\qw E m/\UI wr E m/\aa [] wr E):=(bg.o wr O.o.kp).mono (fun e E q=>by obtain⟨m,q1,q2,q3⟩:=q;obtain⟨z1,z2,z3⟩:=q2 rfl;exact⟨m,z1,q1,z2,z3,q3⟩);clear bg bs;(go_upto_region 17 with (go_at_call 106;refine Xx ai.o ?_;rintro e7 w7 ⟨m,a5,rfl,a4,X,k7⟩));rw[R.o]at X k7;obtain⟨y,al⟩:=aP (w7.alloc (.cells #[string m.P.code,slice m.hb.ao m.P.body.length m.hb.cap,slice m.hv.ao m.P.vars.length m.hv.cap,slice m.ht.ao m.P.types.length m.ht.cap,string m.P.Zbz] 185));have D:=dx al.o;have B8:=dC al.o;obtain⟨bx,az⟩:=aP (w7.heap.size);rw[az.o]at B8;rw[al.o,az.o];obtain⟨r0,r1,r2,r3,r4⟩:=nJ B8;have r5:=ah B8;have ar:aa [] Y y:=k7.trans D;have L:Xq (sC w y f d r K [] [] H):=p.o.Zbj ar;have aT:Xq (qw y m):=a4.Zbj D;have Z:Xq (mB y f H m.hb/\mB y f H m.hv/\mB y f H m.ht):=by
                  have h1:=p.o.bag.lt;have h2:=fun k (q:eG H k)=>p.o.bag.inlt q;exact⟨(X.1.far h1 h2).Zbj D,(X.2.1.far h1 h2).Zbj D,(X.2.2.far h1 h2).Zbj D⟩
                have br:Xq (cY (d++[m])=VD l S U U.length++Xk l S (n+1)):=cm (by rw[Dk,N.o,V.o,a5.o,Y2]);clear B8 D k7 ar a4 X a5 ai y1 y2 eS;(go_upto_region 18 with fail);obtain⟨-,-,-,-,cA⟩:=L.o.cells;have d0:=L.o.cells.1;have cv:=L.o.bag.free 0;have hD:Xq _:=aO.Zbj L.o.bag ((aa.refl [] y).alloc (.cells #[string m.P.code,slice m.hb.ao m.P.body.length m.hb.cap,slice m.hv.ao m.P.vars.length m.hv.cap,slice m.ht.ao m.P.types.length m.ht.cap,string m.P.Zbz] 185)).drew;have s2:Xq (∀j u,([string m.P.code,slice m.hb.ao m.P.body.length m.hb.cap,slice m.hv.ao m.P.vars.length m.hv.cap,slice m.ht.ao m.P.types.length m.ht.cap,string m.P.Zbz]:List Value)[j]?=some u->(y.alloc (.cells #[string m.P.code,slice m.hb.ao m.P.body.length m.hb.cap,slice m.hv.ao m.P.vars.length m.hv.cap,slice m.ht.ao m.P.types.length m.ht.cap,string m.P.Zbz] 185)).drew.cell? ((⟨y.heap.size,0,none⟩:Addr).add j)=some u):=by
                  intro j u hj;have hk:(y.alloc (.cells #[string m.P.code,slice m.hb.ao m.P.body.length m.hb.cap,slice m.hv.ao m.P.vars.length m.hv.cap,slice m.ht.ao m.P.types.length m.ht.cap,string m.P.Zbz] 185)).drew.heap[y.heap.size]?=some (.cells #[string m.P.code,slice m.hb.ao m.P.body.length m.hb.cap,slice m.hv.ao m.P.vars.length m.hv.cap,slice m.ht.ao m.P.types.length m.ht.cap,string m.P.Zbz] 185):=XD _ _;rw[bE,ab hk];simpa using hj
                have s3:Xq (∀u∈([string m.P.code,slice m.hb.ao m.P.body.length m.hb.cap,slice m.hv.ao m.P.vars.length m.hv.cap,slice m.ht.ao m.P.types.length m.ht.cap,string m.P.Zbz]:List Value),u.oneCell'=true):=MR m;have s4:Xq ((oF d).n+1<=maxLen):=(by show d.length+1<=_;have:=A.o;unfold maxLen;omega);have s5:Xq (((oF d).n+1)*104<=140737488355328):=(by show(d.length+1)*104<=_;have:=A.o;omega);have a0:Xq ((⟨(oF d).e,(oF d).size,(oF d).n+1,(oF d).xs++[string m.P.code,slice m.hb.ao m.P.body.length m.hb.cap,slice m.hv.ao m.P.vars.length m.hv.cap,slice m.ht.ao m.P.types.length m.ht.cap,string m.P.Zbz]⟩:eD)=oF (d++[m])):=Dp d m;have ac:Xq (∀wz H2,aO wz f 183 (GE (d++[m]) r K [] [] H2) (Fu (d++[m]) [] (K.length+1) []) H2->aw f (y.alloc (.cells #[string m.P.code,slice m.hb.ao m.P.body.length m.hb.cap,slice m.hv.ao m.P.vars.length m.hv.cap,slice m.ht.ao m.P.types.length m.ht.cap,string m.P.Zbz] 185)).drew H wz H2->sC w wz f (d++[m]) r K [] [] H2 ):=fun wz H2 g1 g2=>by
                  have Q:=((aa.refl [] y).alloc (.cells #[string m.P.code,slice m.hb.ao m.P.body.length m.hb.cap,slice m.hv.ao m.P.vars.length m.hv.cap,slice m.ht.ao m.P.types.length m.ht.cap,string m.P.Zbz] 185)).drew;exact(L.o.Zbj Q).pushP (aT.o.Zbj Q) ⟨Z.o.1.Zbj Q,Z.o.2.1.Zbj Q,Z.o.2.2.Zbj Q⟩ g2 g1
                clear aT Z;go_region_law (refine bB rfl (.tmp 89) (.tmp 91) 180 rfl iP (agg #[string ⟨#[]⟩,slice none 0 0,slice none 0 0,slice none 0 0,string ⟨#[]⟩]) 104 (H 0) (oF d) underlying180 b3 a6 a7 ba rfl (by show 0<5;omega) (by simp[Act.eval] <;> rfl) (aO.ZbH hD.o 0) ⟨y.heap.size,0,none⟩ 1 1 [string m.P.code,slice m.hb.ao m.P.body.length m.hb.cap,slice m.hv.ao m.P.vars.length m.hv.cap,slice m.ht.ao m.P.types.length m.ht.cap,string m.P.Zbz] (by simp[Act.eval]) rfl s2.o s3.o XR s4.o s5.o ?_;intro ga F wa af J I;obtain⟨ka,fa,ad⟩:=aO.app hD.o (cs':=GE (d++[m]) r K [] [] (gj H 0 ⟨some ⟨ga,0,none⟩,F⟩)) (rows':=Fu (d++[m]) [] (K.length+1) []) 0 0 ga F (d.length+1) _ af a0.o J (by simpa using I) (GF d _ [] _ []) _ rfl (by simp[GE,gj]);clear af J I)
                all_goals go_wp2
                all_goals go_roundg (b-(n+1))
                all_goals first | omega | exact⟨n+1,d++[m],_,by omega,rfl,by go_num,br,by have:=A.o;show(d++[m]).length<=_;rw[XC];show d.length+1<=_;omega,ac.o _ _ ad.o.1 ad.o.2⟩
          · obtain rfl:n=b:=by omega
            have aS:Xq (cY d=PP):=cm (by rw[V.o];exact cs.o.symm);have bf:Xq (d.length<=20000):=(by have:=A.o;show _<=_;omega);have ed:d.length<=20000:=bf.o;have aq:Xq _:=O.o;clear V A O ct bv cs b3 a6 a7 ba;obtain⟨iS,c9,cF,cH,cL⟩:=XV i9;obtain⟨d0,-,d2,-,ap⟩:=aq.o.cells;go_wp2;clear d0 d2 ap
            go_loopg [15] d.length (fun gk iv wr=>∃(k:Nat) (a:Xs) (H:Nat->Hd),k<=d.length/\gk=d.length-k/\iv=int i64 k/\Xq (LS d k a)/\Xq (sC w wr f d r K a [] H))
            case atStart=>exact⟨0,[],H,by omega,rfl,rfl,LS.start d,aq⟩
            case round =>
              clear aq;obtain⟨k,a,H,dk,cy,rfl,ag,O⟩:=hrel;obtain⟨d0,-,d2,-,ap⟩:=O.o.cells;have d5:a.length<=20000:=by have:=ag.o.len;omega
              rcases kn k d.length with ⟨C,df⟩ | ⟨C,-⟩
              · obtain⟨gp,ep,b1,pc⟩:=(aD.srcG (show aD wr (H 0) (oF d) from O.o.bag.ZbH 0) (fun _=>rfl)) k d[k] (Xv C)
                have p0:wr.cell? ⟨gp,k*5,none⟩=some (string d[k].P.code):=pc 0 _ rfl;rw[ep]at d0;have av:Xq (∀q,Calls prog 92 #[slice (H 1).ao a.length (H 1).cap,string d[k].P.code] (wr.drewN q) fun e E=>e=returned (bool (aN a d[k].P.code))/\E=wr.drewN q):=fun q=>kH a (H 1).ao (H 1).cap _ _ ((show aD wr (H 1) (aE a) from O.o.bag.ZbH 1).Zbj (bH.drewN q)).srcX (by omega);have bw:Xq (aN a d[k].P.code=true->LS d (k+1) a):=fun z=>ag.o.skip C z;have bm:Xq (aN a d[k].P.code=false->LS d (k+1) (a++[d[k].P.code])):=fun z=>ag.o.add C z;have c2:Xq _:=p0;generalize d[k].P.code=cd at *;clear pc;cases bl:aN a cd
                · rw[bl]at av
                  have bo:Xq _:=bm.o bl;clear bw bm ag;(go_upto_region 23 with fail);go_quiet ((go_at_call 92;exact XW (av.o _)));obtain⟨Y,R⟩:=aP (wr.drewN nq);rw[R.o];have kY:aa [] wr Y:=(by rw[<-R.o];exact bH.drewN nq);have p:Xq _:=O.o.Zbj kY;have dt:gp<Y.heap.size:=XB b1 kY.size;have ef:Y.cell? ⟨gp,k*5,none⟩=some (string cd):=(by rw[XJ (kY.block gp b1 (by simp))];exact c2.o);clear d0 d2 ap p0 b1 av kY;obtain⟨d0,-,d2,-,ap⟩:=p.o.cells;rw[ep]at d0;have cv:=p.o.bag.free 2;have hD:Xq _:=aO.Zbj p.o.bag ((aa.refl [] Y).alloc (.cells #[string cd] 9)).drew;have s2:Xq (∀j u,([string cd]:List Value)[j]?=some u->(Y.alloc (.cells #[string cd] 9)).drew.cell? ((⟨Y.heap.size,0,none⟩:Addr).add j)=some u):=by
                    intro j u hj;have hk:(Y.alloc (.cells #[string cd] 9)).drew.heap[Y.heap.size]?=some (.cells #[string cd] 9):=XD _ _;rw[bE,ab hk];simpa using hj
                  have s3:Xq (∀u∈([string cd]:List Value),u.oneCell'=true):=fun u hu=>by rw[XH.1 hu];rfl
                  have s4:Xq ((aE a).n+1<=maxLen):=(by show a.length+1<=_;unfold maxLen;omega);have s5:Xq (((aE a).n+1)*16<=140737488355328):=(by show(a.length+1)*16<=_;omega);have a0:Xq _:=dy a cd;have ac:Xq (∀wz H2,aO wz f 183 (GE d r K (a++[cd]) [] H2) (Fu d (a++[cd]) (K.length+1) []) H2->aw f (Y.alloc (.cells #[string cd] 9)).drew H wz H2->sC w wz f d r K (a++[cd]) [] H2):=fun wz H2 g1 g2=>(p.o.Zbj ((aa.refl [] Y).alloc (.cells #[string cd] 9)).drew).turned g2 g1;clear p O;(go_upto_region 25 with fail);go_region_law (refine bB rfl (.tmp 125) (.tmp 134) 61 rfl iS (string ⟨#[]⟩) 16 (H 1) (aE a) underlying61 c9 cF cH cL rfl XR (by simp[Act.eval] <;> rfl) (aO.ZbH hD.o 1) ⟨Y.heap.size,0,none⟩ 1 1 [string cd] (by simp[Act.eval]) rfl s2.o s3.o XR s4.o s5.o ?_;intro ga F wa af J I;obtain⟨ka,fa,ad⟩:=aO.app hD.o (cs':=GE d r K (a++[cd]) [] (gj H 1 ⟨some ⟨ga,0,none⟩,F⟩)) (rows':=Fu d (a++[cd]) (K.length+1) []) 2 1 ga F (a.length+1) _ af a0.o J (by simpa using I) (Ob d a _ _ []) _ rfl (by simp[GE,gj]);clear af J I)
                  all_goals go_wp2
                  all_goals go_roundg (d.length-(k+1))
                  all_goals first | omega | exact⟨k+1,a++[cd],_,by omega,rfl,by go_num,bo,ac.o _ _ ad.o.1 ad.o.2⟩
                · rw[bl]at av
                  have bo:Xq _:=bw.o bl;clear bw bm ag;(go_upto_region 23 with fail);go_quiet ((go_at_call 92;exact XW (av.o _)));have p:Xq _:=O.o.Zbj ((aa.refl [] wr).drewN nq);clear d0 d2 p0;go_wp2;go_roundg (d.length-(k+1))
                  · exact⟨k+1,a,H,by omega,rfl,by go_num,bo,p⟩
                  omega
              · obtain rfl:k=d.length:=by omega
                have c3:Xq _:=KY w f d r K a H wr O.o (by rw[HM.o];omega) (by omega) (by omega) ag.o.dist ag.o.done;have cc:Xq (∀E,zaf w f d r K a E->Xp PP (B.drop 1) w (returned (pointer (some ⟨f,0,none⟩))) E):=fun E q=>by
                  rw[cu.o];obtain⟨hp,hc,hn,rb,G,q1,q2,q3,q4⟩:=q;refine⟨f,d,hp,r,hc,hn,a,rb,G,rfl,aS.o,⟨q1,q2,q3,fun m hm=>c1.o _ ?_,by rw[HM.o];omega,by omega,by omega⟩,q4⟩;rw[<-aS.o];exact ZQ hm
                go_wp2_with (go_at_call 107;refine Xx c3.o ?_;rintro e9 w9 ⟨rfl,q9⟩);go_ret;exact cc.o _ q9)
end Go.Proofs.YtpdholcaobgofaaGreat
