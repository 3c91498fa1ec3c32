import Derived.Test.YtpdholcaobgofaaGreatP26
namespace Go.Proofs.YtpdholcaobgofaaGreat
open Go.RowKit Tryz
open Value IntKind Ending
set_option linter.all false
set_option maxHeartbeats 0
variable{g:List Tk}{t:List Sm}{w d M x7:Nat}{x8:Nat->Bool}{ys:Db}{y8:List jO}{z2 y7:Vx}{yy:List St}{yu:Nat->U}{x I:World}{yg:VB}{N:Fs}{c:Option Nat}{s y9:U}{yz:Int}{L:Nat×Nat->It}{yd:Nat×Nat}{v3 x9:eR}{xa:List Value}{yf:Program}{xz:Array Oper}{ya:Oper}{yr:Act}{v0:Exit->Act->World->Prop}(z8 o:Nat)(x5:Fs)(y1 y2:Vx)(k:Fs)(z3:U)(i:Nat)(z6:Vx)(H:List Tk)(y4:Vz)(zf:Nat)(y:List Sm)(x6:Vz)(l:Nat)(D:List jO)(zt:Vz)(yv:VB)(S:Nat)(xv yt y5 y6:Value)(u:Option Nat)(z4:Vx)(b:World)(r:Nat×Nat->It)
def lN(T:List Tk)(S:List Sm)(j k:Nat):Vx:=((bE T (ay S j).h).take k).foldl (λs x=>s++⟨#[32]⟩++x) (bS T (ay S j)++⟨#[32]⟩++(ay S j).k)
theorem xb(h:S<(bE H (ay y l).h).length):lN H y l (S+1)=lN H y l S++⟨#[32]⟩++(bE H (ay y l).h)[S]:=by unfold lN;rw[WV,VI h,XK];rfl
theorem Fa(a:(bS g (ay t w)).size<=100000)(b:(ay t w).k.size<=100000)(c:∀x∈bE g (ay t w).h,x.size<=100000)(k:Nat)(d:k<=(bE g (ay t w).h).length):(lN g t w k).size<=200001+k*100001:=by induction k with|zero=>grind [lN,xe]|succ k e=>grind [bE,ay,xb,xe]
set_option maxRecDepth 100000
theorem OT(V:b.heap[z8]?=some (aJ #[xv,yt,bh o,y5,y6] 85))(r:gN b o H y4 zf y zt S)(W:i<y.length)(hT:H.length<=10000)(hE:dC H y[i].h)(ha:y[i].a<H.length)(N:(bS H (ay y i)).size<=100000)(P:(ay y i).k.size<=100000)(R:∀x∈bE H (ay y i).h,x.size<=100000)(hl:(bE H (ay y i).h).length<=10000) :
  aU 62 #[bh z8,J i] b (kt (Y (mg H y i)) b):=by (have eS:ay y i=y[i]:=by grind [ay]);(have A:Z _:=nk o i H y4 zf y zt S b r W ha;have t:Z _:=λp (k:aI b p)=>jb o i H y4 zf y zt S p (r.YM k) W (by omega) hE;have j:Z (mg H y i=lN H y i (bE H (ay y i).h).length):=cI (by grind [mg,lN]);have⟨n,l⟩:=jy (Fa N P R) (xb H y i);have z:Z (lN H y i 0=bS H y[i]++⟨#[32]⟩++y[i].k):=cI (by grind [lN]);have v:Z (gN b o H y4 zf y zt S):=r;have⟨D,M⟩:=jy V R;rw[eS]at N P hl j n l M;obtain⟨q,rfl,I,q0,q1,q2,q3⟩:=r.s.2 i y[i] (by simp);obtain⟨-,-,v2,-⟩:=mq V;have ad:(i:Int)<y.length:=by omega);have m:Z (aP b q (i*4+3) (Y y[i].k)/\q<b.heap.size):=⟨q3,I⟩;generalize y[i].k=kk at *;generalize bS H y[i]=L at *;generalize bE H y[i].h=B at *;go_enter func62,ntmps62;go_upto_region 2 with (go_at_call 86;refine de A λp K=>?_);(have⟨c,C,u⟩:=oF K (K.gt D) (v.o.YM K);have⟨_,_,v2,_⟩:=mq C;have⟨_,d1,bz⟩:=u.o.cells;have q3:aP p q (i*4+3) (Y kk):=po (c.o.block q m.2 (by simp)) m.1;have f:Z _:=t p c;have z1:(L++⟨#[32]⟩:Vx).size<=100001:=by grind [xe]);(go_upto_region 3 with fail);(go_upto_region 4 with (go_at_call 71;refine VL f ?_;rintro e w2 ⟨h',rfl,x2⟩));have⟨E,w⟩:=jy x2.Za.srcX (c.o.trans x2.YZ);rw[<-z.o];obtain⟨G,T⟩:=h';go_wp2;go_loopg [5,7] B.length (λg tv am wr=>∃k:Nat,k<=B.length/\g=B.length-k/\am=J k/\tv=Y (lN H y i k)/\w2=wr);{exact⟨0,by omega,by omega,rfl,rfl,rfl⟩};obtain⟨k,hk,hg,rfl,rfl,rfl⟩:=hrel;by_cases d:k<B.length;{(have ai:=n k hk;have hx:=M _ (Wb d);have HT:Z _:=(l k d).symm;have af:(k:Int)<B.length:=by omega);(have⟨gB,F,ac,cB⟩:=E k _ (VI d);replace F:G=some (aE gB):=F;subst F;generalize B[k]=ao at *;have al:(lN H y i k++⟨#[32]⟩:Vx).size<=200002+k*100001:=by simp[ByteArray.size_append,xe];omega);generalize lN H y i k=tx at *;go_wp2;go_roundg (B.length-(k+1));{exact⟨k+1,by omega,rfl,by go_num,congrArg Y HT,rfl⟩};omega};{(have e:k=B.length:=by omega);(subst e;have ag:¬(B.length:Int)<B.length:=by omega);go_wp2;go_ret;exact⟨congrArg (λs=>cM (Y s)) j.o.symm,w⟩}
def Vh(RS:List jO)(lab:Vx)(a:Nat):Bool:=(bne (gM RS a).YN 0)&&((gM RS a).Y2.toList==lab.toList)
def zq(RS:List jO)(lab:Vx):Option Nat:=(List.range RS.length).find? (Vh RS lab)
theorem Kg(b:d<w)(a:∀i,i<d->x8 i=false)(h:x8 d=true):(List.range w).find? x8=some d:=by simp_all
theorem Sd(a:∀i,i<w->x8 i=false):(List.range w).find? x8=none:=by grind
set_option maxRecDepth 512
theorem Gj(a:b.heap[i]?=some (aJ #[xv,bool false,yt,y5,y6] 85)) :
  aU 60 #[bh i,Y z6] b (iw (tuple #[J 0,J 7]) b):=by obtain⟨-,c,-⟩:=mq a;go_enter func60,ntmps60;go_wp2;exact VJ (v:=tuple #[J 0,J 7]) (by simp[results,results60,go_sem]) rfl ⟨rfl,rfl⟩
def U7(RS:List jO)(lab:Vx)(w:World)(e:Ending)(w':World):Prop:=e=cM (tuple #[J ((zq RS lab).getD 0:Nat),J (if(zq RS lab).isSome=true then 0 else 8)])/\w'=w
set_option maxRecDepth 100000
theorem Ab(t:b.heap[i]?=some (aJ #[yt,bool true,y5,y6,Q zt D.length S] 85))(q:dg b zt 6 lA D)(I:D.length<=100000) :
  aU 60 #[bh i,Y z6] b λe E=>U7 D z6 b e E:=by obtain⟨-,P,-,-,R⟩:=mq t;have v:=(show Z (dg b zt 6 lA D) from q);clear t q;go_enter func60,ntmps60;go_wp2;go_loopg [6] D.length (λg a wr=>∃k:Nat,k<=D.length/\g=D.length-k/\a=J k/\Z (∀a,a<k->Vh D z6 a=false)/\b=wr);{exact⟨0,by omega,by omega,rfl,(λa h=>by omega),rfl⟩};obtain⟨k,H,G,rfl,f,rfl⟩:=hrel;rcases kn k D.length with ⟨c,z⟩ | ⟨c,-⟩;{(have p:D[k]?=some (gM D k):=by unfold gM;rw[VM,VI c];rfl);obtain⟨F,rfl,x,l⟩:=v k _ p;have n:=l 0 _ rfl;have w:=l 1 _ rfl;rw[WF]at n;have d:Z (Vh D z6 k=((bne (gM D k).YN 0)&&((gM D k).Y2.toList==z6.toList))):=rfl;clear l p;generalize gM D k=r at *;obtain⟨B,C,N,L,M,K⟩:=r;simp only at d n w;cases m:(C != 0);{(have u:Z (∀a,a<k+1->Vh D z6 a=false):=λa y=>by by_cases e:a=k;{rw[e,d.o,m];rfl};{exact f a (by omega)});go_wp2;go_roundg (D.length-(k+1));{grind};omega};{cases s:(B.toList==z6.toList);{(have u:Z (∀a,a<k+1->Vh D z6 a=false):=λa y=>by by_cases e:a=k;{rw[e,d.o,m,s];rfl};{exact f a (by omega)});go_wp2;go_roundg (D.length-(k+1));{grind};omega};{have j:Z (zq D z6=some k):=Kg c f (by rw[d.o,m,s];rfl);go_wp2;exact VJ (v:=tuple #[J k,J 0]) (by simp[results,results60,go_sem]) rfl ⟨by rw[j.o];rfl,rfl⟩}}};{(have e:k=D.length:=by omega);(subst e;have A:¬(D.length:Int)<D.length:=by omega);have j:Z (zq D z6=none):=Sd f;go_wp2;exact VJ (v:=tuple #[J 0,J 8]) (by simp[results,results60,go_sem]) rfl ⟨by rw[j.o];rfl,rfl⟩}
def QW(L:Vy)(w:World)(e:Ending)(w':World):Prop:=∃h',e=cM (tuple #[Q h'.ao L.length h'.cap,J 0])/\iz w w' h' (aG L)
theorem Km(hd:b.heap[z8]?=some (aJ #[y5,bool true,bh o,y6,Q zt D.length S] 85))(hS:dg b zt 6 lA D)(hl:D.length<=100000)(hD:gN b o H y4 zf y x6 l)(ok:pm H y i)(hn:i<y.length)(hE:dC H (ay y i).h)(ha:zq D z6=some i)(ap:∀wx,aI b wx->∀j,(j∈ci H y i∨j=i)->aU 62 #[bh z8,J j] wx (kt (Y (mg H y j)) wx))(hp:∀p∈fX H y i,p.1.size<=100000/\p.2.size<=100000)(hh:(ci H y i).length<=10000)(hq:(fX H y i).length<=100000000) :
  aU 39 #[bh z8,Y z6] b λe w'=>QW (tJ H y i) b e w':=by
 have aq:Z (aU 60 #[bh z8,Y z6] b (iw (tuple #[J i,J 0]) b)):=(Ab z8 z6 D zt S y5 _ y6 b hd hS hl).mono (λe w' h=>by
  have⟨h1,v⟩:=h;rw[ha]at h1;exact⟨h1,v⟩)
 have az:Z _:=ni o i H y4 zf y x6 l b hD ok hn hE;have a8:Z _:=λwx (k:aI b wx)=>vT o i H y4 zf y x6 l wx (hD.YM k) ok hn hE;have⟨ad,ba,HV⟩:=oF ap hp hd;have⟨_,_,v2,_⟩:=mq hd;have ac:Z (tJ H y i=(ci H y i).map (mg H y)++(fX H y i).map jU++[mg H y i]):=rfl;have⟨iS,T,x,z,A⟩:=VT iV;generalize tJ H y i=LL at *;generalize ci H y i=c at *;generalize fX H y i=d at *;clear hd hS hD ok hE ap hp ha;go_enter func39,ntmps39;go_upto_region 5 with (go_at_call 60;refine dZ aq ?_);(go_upto_region 6 with (go_at_call 61;refine VL az ?_;rintro e w1 ⟨h1,rfl,x1⟩));have⟨K,a2⟩:=jy x1.YZ x1.Za.srcN;have⟨be,bp⟩:=h1;have a4:Z (iz w1 w1 ⟨none,0⟩ (aG [])):=⟨VH ..,(by intro k hk;cases hk),O.refl ..⟩;clear x1 v2;go_wp2;go_loopg [8,10] c.length (λg bl bk wr=>∃(k:Nat) (G:U),k<=c.length/\g=c.length-k/\bl=Q G.ao k G.cap/\bk=J k/\Z (iz w1 wr G (aG ((c.take k).map (mg H y)))));{exact⟨0,⟨none,0⟩,by omega,rfl,rfl,rfl,a4⟩};obtain⟨k,G,hk,hg,rfl,rfl,W⟩:=hrel;have L:Z _:=K.o.trans W.o.YZ;rcases kn k c.length with ⟨q,bj⟩ | ⟨q,-⟩;{have⟨gH,eH,bf,cH⟩:=(nP.YM a2 W.o.YZ) k _ (VI q);replace eH:be=some (aE gH):=eH;subst eH;have a1:Z _:=ad wr L c[k] (VY (Wb q));have N:Z ((c.take k).map (mg H y)++[mg H y c[k]]=(c.take (k+1)).map (mg H y)):=cI (by rw[WV,VI q,Wg];rfl);have r:Z (((c.take k).map (mg H y)).length=k):=cI (by rw[Wf,Xb];omega);generalize (c.take k).map (mg H y)=a at *;generalize mg H y c[k]=ln at *;generalize c[k]=j at *;go_upto_region 10 with (go_at_call 62;refine de a1 λw2 k2=>?_);(have C:Z _:=W.o.YM k2;have P:=C.o.Za;have w:Z ((aG a).n<=900000000):=by show a.length<=_;rw[r.o];omega);have s:Z ((aG a).n=k):=r.o;clear cH bf k2;go_wp2_with (at_builtin;refine cK w2 rfl (.tmp 42) (.tmp 44) 61 rfl iS (bN) 16 G (aG a) [Y ln] underlying61 T x z A rfl VP (by rw[s.o];rfl) P w (by omega) (by rfl) rfl (by simp[Value.oneCell']) ?_;intro h5 w5 m dm;rw[dq]at m;have M:Z _:=C.o.YW dm m;clear m dm);go_roundg (c.length-(k+1));{exact⟨k+1,h5,by omega,rfl,by rw[s.o],by go_num,by rw[<-N.o];exact M⟩};omega};{(have e:k=c.length:=by omega);(subst e;have br:¬(c.length:Int)<c.length:=by omega);rw[Wl]at W;have bd:Z _:=L.o.gt HV;have⟨_,_,v2,_⟩:=mq bd;have bc:Z _:=a8 wr L;go_upto_region 12 with (go_at_call 63;refine VL bc ?_;rintro e w2 ⟨hP,rfl,x2⟩);(have a6:Z (dg w2 hP.ao 2 Le d):=aK.srcG (f:=Le) x2.Za (λ_=>rfl);have C:Z _:=W.o.YM x2.YZ;have ar:Z (∀g,hP.ao=some (aE g)->G.Y0≠some g):=λg B hb=>by have h1:=x2.far g (tn B);have v:=W.o.Za.lt hb;omega);(have ax:Z _:=λg (B:hP.ao=some (aE g))=>x2.Za.lt (tn B);have⟨R,bo⟩:=hP;clear v2 x2;have a5:Z ((c.map (mg H y)).length=c.length):=Wf _;generalize c.map (mg H y)=a at *;have ai:Z (iz w1 w2 G (aG (a++(d.take 0).map jU))):=by show iz ..;rw[List.take_zero,Yd,V8];exact C);go_wp2;go_loopg [8,13] d.length (λg bl bk V=>∃(k:Nat) (v:U),k<=d.length/\g=d.length-k/\bl=Q v.ao (c.length+k) v.cap/\bk=J k/\Z (iz w1 V v (aG (a++(d.take k).map jU)))/\Z (dg V R 2 Le d)/\Z (∀g,R=some (aE g)->v.Y0≠some g/\g<V.heap.size));{exact⟨0,G,by omega,rfl,rfl,rfl,ai,a6,λg B=>⟨ar g B,ax g B⟩⟩};obtain⟨k,v,bq,jy,rfl,rfl,t,ag,I⟩:=hrel;have aS:Z _:=K.o.trans t.o.YZ;have r:Z ((a++(d.take k).map jU).length=c.length+k):=cI (by rw[VQ,a5.o,Wf,Xb];omega);rcases kn k d.length with ⟨q,bj⟩ | ⟨q,-⟩;{(have⟨F,eP,bg,hc⟩:=ag k _ (VI q);replace eP:R=some (aE F):=eP;subst eP;have c0:=hc 0 _ rfl;have c1:=hc 1 _ rfl;rw[WF]at c0;have⟨z0,z1⟩:=ba _ (Wb q);have N:Z (a++(d.take k).map jU++[jU d[k]]=a++(d.take (k+1)).map jU):=cI (by rw[WV,VI q,Wg,Xk];rfl);have af:Z (jU d[k]=⟨#[36,100,32]⟩++d[k].1++⟨#[32]⟩++d[k].2):=rfl;clear hc;generalize d[k]=pp at *;have⟨px,py⟩:=pp;simp only at af z0 z1 c0 c1;generalize a++(d.take k).map jU=u at *;have s3:(⟨#[36,100,32]⟩:Vx).size=3:=rfl;have n1:¬9223372036854775807<3+px.size:=(by omega);have n2:¬9223372036854775807<3+px.size+1:=(by omega);have n3:¬9223372036854775807<3+px.size+1+py.size:=(by omega);have P:=t.o.Za;have w:Z ((aG u).n<=900000000):=(by show u.length<=_;rw[r.o];omega);have s:Z ((aG u).n=c.length+k):=r.o;have HS:Z (∀(w6:World) (h6:U),bU wr w6 v h6->w6.cell? (X F (k*2))=some (Y px)/\w6.cell? (X F (k*2+1))=some (Y py)):=λw6 h6 gr=>by have hb:=gr.YZ.block F bg (λhm=>(I F rfl).1 (bG hm));exact⟨po hb c0,po hb c1⟩);(go_upto_region 15 with fail);go_region_held3 (λw'=>w'.cell? (X F (k*2))=some (Y px)/\w'.cell? (X F (k*2+1))=some (Y py)) (go_keep) ((refine cw wr (by rfl) (.tmp 58) (.tmp 72) 61 (by rfl) iS (bN) 16 v (aG u) [Y _] underlying61 T x z A rfl VP (by rw[s.o];rfl) P w (by omega) (by rfl) rfl (by simp[Value.oneCell']) ?_;intro am E w5 m dm;have⟨y0,y3⟩:=HS w5 _ dm));all_goals((rw[dq,<-af.o,N.o]at m;have a3:Z _:=t.o.YW dm m;have a7:Z _:=ag.o.keptS dm.YZ (λg B hm=>(I g B).1 (bG hm));have av:Z (∀g,(some (aE F):Vz)=some (aE g)->(⟨am,E⟩:U).Y0≠some g/\g<w5.heap.size):=λg B=>by have⟨f1,f2⟩:=I g B;have hs:=dm.YZ.size;refine⟨λe=>?_,by omega⟩;rcases dm.Y0 with e2 | ⟨g2,e2,jy⟩;{rw[e2]at e;exact f1 e};{rw[e2]at e;cases e;omega});clear m dm;go_wp2;go_roundg (d.length-(k+1));{exact⟨k+1,⟨am,E⟩,by omega,rfl,by rw[s.o];rfl,by go_num,a3,a7,av⟩};omega)};{(have e:k=d.length:=(by omega);subst e;have bm:¬(d.length:Int)<d.length:=by omega);rw[Wl]at t r;have aT:Z _:=ad wr aS i (VW rfl);generalize a++d.map jU=u at *;generalize mg H y i=la at *;(go_upto_region 17 with (go_at_call 62;refine de aT λw6 k6=>?_));have al:Z _:=t.o.YM k6;have w:Z ((aG u).n<=900000000):=(by show u.length<=_;rw[r.o];omega);have s:Z ((aG u).n=c.length+d.length):=r.o;clear k6;go_wp2_with (at_builtin;refine cK w6 rfl (.tmp 77) (.tmp 79) 61 rfl iS (bN) 16 v (aG u) [Y la] underlying61 T x z A rfl VP (by rw[s.o];rfl) al.o.Za w (by omega) (by rfl) rfl (by simp[Value.oneCell']) ?_;intro h5 w5 m dm;rw[dq]at m;have M:Z _:=al.o.YW dm m;clear m dm);have a0:Z (LL.length=(aG u).n+1):=cI (by rw[ac.o,VQ];rfl);exact VJ (v:=tuple #[Q h5.ao ((aG u).n+1) h5.cap,J 0]) (by simp[results,results39,go_sem]) rfl ⟨h5,by rw[a0.o],by rw[ac.o];exact M.o.base K⟩}}
structure RwE(T:List Tk)(S:List Sm)(RS:List jO):Prop where
 len:RS.length=S.length
 yes:∀a,a<S.length->aL (ay S a).k=true->(bne (gM RS a).YN 0)=true/\(gM RS a).Y2=bS T (ay S a)
 no:∀a,a<S.length->aL (ay S a).k=false->(bne (gM RS a).YN 0)=false
theorem lk.find(R:lk g ys)(E:RwE g (ah g) y8)(a:Vx):zq y8 a=(iK ys.YY a).map (bW (ah g)):=by (have c:((List.range ys.YY.length).filter (pE ys.YY a)).map (bW (ah g))=(List.range (ah g).length).filter (Vh y8 a):=by refine uF R.hel.len (λj i h=>?_) (λn e=>?_);{unfold Vh at h;simp only[Bool.and_eq_true]at h;cases b:aL (ay (ah g) j).k;{rw[E.no j i b]at h;cases h.1};grind [aL,qB]};{obtain⟨s,l,f,p,-⟩:=R.get e;have d:=R.hel.at_ e;unfold pE Vh;rw[l];simp only;have q:=(gi f).2.2.2;cases b:aL (ay (ah g) (bW (ah g) n)).k;{rw[E.no _ d b];grind [aL]};{obtain⟨m,o⟩:=E.yes _ d b;grind [aL]}});unfold zq iK;rw[E.len,<-List.head?_filter,<-c,List.head?_map,List.head?_filter]
theorem Kn(G:sR g ys)(E:RwE g (ah g) y8)(a:Vx):(iK ys.YY a=none->zq y8 a=none)/\∀n,iK ys.YY a=some n->zq y8 a=some (bW (ah g) n)/\A6 ys.YY n=tJ g (ah g) (bW (ah g) n):=by (have h:=G.r.find E a;refine⟨by grind,λn e=>⟨by grind,?_⟩⟩;have b:n<ys.YY.length:=by grind [iK]);refine G.r.frame G.f b (λs c=>?_);grind [iK,pE]
theorem LZ(P:List eD)(a:Vx)(t:Tk):∀(f k:Nat) (M:List Vy),(bne (sG H y S P a t f k M).YN 0)=true/\(sG H y S P a t f k M).Y2=a:=by intro f;induction f with|zero=>grind [sG,Ci]|succ f b=>grind [sG]
theorem FN(p:lR)(t:Tk):(bne (pP H y S p t).YN 0)=true/\(pP H y S p t).Y2=bS H (ay y S):=by grind [pP,LZ]
theorem DQ:(aL (ay y S).k=true->(bne (rU H y (Qd H y) S).YN 0)=true/\(rU H y (Qd H y) S).Y2=bS H (ay y S))/\(aL (ay y S).k=false->(bne (rU H y (Qd H y) S).YN 0)=false):=by unfold rU aL;cases b:zaC y S;{cases a:xY y S;{unfold zaC at b;unfold xY at a;rw[b,a];exact⟨by simp,λ_=>rfl⟩};{unfold xY at a;rw[a,Bool.or_true];refine⟨λ_=>?_,λh=>by cases h⟩;exact FN H y S _ _}};grind [zaC]
theorem sP.tell{f:List (lR×U)}(h:sP t f ((List.range t.length).map (rU g t (Qd g t))) y8 t.length):RwE g t y8:=by (have k:y8.length=t.length:=by rw[h.len,Wf,Ym]);(have b:∀a,a<t.length->gM ((List.range t.length).map (rU g t (Qd g t))) a=rU g t (Qd g t) a:=by grind [gM]);(have i:∀a,a<t.length->(gM y8 a).Y2=(rU g t (Qd g t) a).Y2/\(bne (gM y8 a).YN 0)=(bne (rU g t (Qd g t) a).YN 0):=λa d=>by by_cases c:(gM ((List.range t.length).map (rU g t (Qd g t))) a).YN=4/\zU t f ((List.range t.length).map (rU g t (Qd g t))) a;{have e:=h.yes a d c.1 c.2;grind};{rw[h.no a d c,b a d];simp});refine⟨k,λa d j=>?_,λa d j=>?_⟩;{grind [DQ]};grind [DQ]
def zg(RS:List jO):List jO:=RS.filter (λr=>bne r.YN 0)
theorem Uj(r:jO):∀u∈lA r,u.oneCell'=true:=by intro u a;simp[lA,List.mem_cons,List.not_mem_nil,or_false]at a;rcases a with rfl | rfl | rfl | rfl | rfl | rfl <;> rfl
set_option maxRecDepth 512
theorem Qa(a:b.heap[S]?=some (aJ #[xv,bool false,yt,y5,y6] 85)) :
  aU 21 #[bh S] b (iw (Q none 0 0) b):=by have⟨_,c,_⟩:=mq a;go_enter func21,ntmps21;go_wp2;go_ret;exact⟨rfl,rfl⟩
def Vd(RS:List jO)(w:World)(e:Ending)(w':World):Prop:=∃h',e=cM (Q h'.ao (zg RS).length h'.cap)/\iz w w' h' (iu (zg RS))
set_option maxRecDepth 100000
theorem P9(K:b.heap[l]?=some (aJ #[yt,bool true,y5,y6,Q zt D.length S] 85))(hS:dg b zt 6 lA D)(hl:D.length<=100000) :
  aU 21 #[bh l] b λe w'=>Vd D b e w':=by have⟨_,v1,_⟩:=mq K;have R:Z _:=K;have P:=(show Z (dg b zt 6 lA D) from hS);have y:Z (iz b b ⟨none,0⟩ (iu (zg (D.take 0)))):=⟨VH ..,(by intro k M;cases M),O.refl ..⟩;have⟨iR,B,q,s,t⟩:=VT MX;go_enter func21,ntmps21;go_wp2;go_loopg [3,4] D.length (λg o i wr=>∃(k:Nat) (c:U) (L:List jO),k<=D.length/\g=D.length-k/\o=Q c.ao L.length c.cap/\i=J k/\L.length<=k/\Z (L=zg (D.take k))/\Z (iz b wr c (iu L)));{exact⟨0,⟨none,0⟩,[],by omega,rfl,rfl,rfl,VC _,rfl,y⟩};obtain⟨k,c,L,M,hg,rfl,rfl,ac,u,j⟩:=hrel;have z:Z _:=j.o.YZ.gt R;obtain⟨-,-,-,-,v4⟩:=mq z;rcases kn k D.length with ⟨d,af⟩ | ⟨d,-⟩;{(obtain⟨g0,rfl,ad,f⟩:=(dg.YM P j.o.YZ) k _ (VI d);have I:=f 0 _ rfl;have T:=f 1 _ rfl;have V:=f 2 _ rfl;have W:=f 3 _ rfl;have c4:=f 4 _ rfl;have c5:=f 5 _ rfl;rw[WF]at I;have a:Z (zg (D.take (k+1))=L++(if(bne D[k].YN 0)=true then [D[k]] else [])):=by show _=_;rw[u.o];unfold zg;rw[WV,VI d,Wk];congr 1;cases h:(bne D[k].YN 0) <;> simp[h]);generalize D[k]=r at *;have⟨F,v,H,E,G,C⟩:=r;simp only at a I T V W c4 c5;cases N:(v != 0);{have w:Z (L=zg (D.take (k+1))):=(by show _=_;rw[a.o,N,mt,V8]);go_wp2;go_roundg (D.length-(k+1));{exact⟨k+1,c,L,by omega,rfl,rfl,by go_num,by omega,w,j⟩};omega};{have w:Z (L++[⟨F,v,H,E,G,C⟩]=zg (D.take (k+1))):=(by show _=_;rw[a.o,N,VO rfl]);have A:Z ((iu L).n<=900000000):=(by show L.length<=_;omega);have m:Z ((iu L).n=L.length):=rfl;go_wp2_with (at_builtin;refine cK wr rfl (.tmp 28) (.tmp 36) 54 rfl iR (agg #[bN,J 0,J 0,bN,J 0,J 0]) 64 c (iu L) (lA ⟨F,v,H,E,G,C⟩) underlying54 B q s t rfl (show 0<6 by omega) (by rw[m.o];simp[Act.eval]) j.o.Za A (by omega) (by simp[Act.eval]) rfl (Uj _) ?_;intro h5 w5 p dm;rw[iu,go]at p;have x:Z _:=j.o.YW dm p);go_roundg (D.length-(k+1));{exact⟨k+1,h5,L++[(⟨F,v,H,E,G,C⟩:jO)],by omega,rfl,by rw[m.o,VQ];rfl,by go_num,by grind,w,x⟩};omega}};{(have e:k=D.length:=by omega);(subst e;have ag:¬(D.length:Int)<D.length:=by omega);rw[Wl]at u;go_wp2;go_ret;exact⟨c,by rw[<-u.o];rfl,by rwa [<-u.o]⟩}
section
variable {T:List Tk}
theorem Kj(h:eZ T)(i:Nat):(tS T i).size<=1024:=by unfold tS;rw[VM];cases e:T[i]? with|none=>show(0:Nat)<=_;omega|some t=>exact(h t (by grind)).1
theorem Rq{L:List Tk}(h:z2∈l8 L):∃t∈L,t.s=z2:=by induction L with|nil=>cases h|cons t r a=>grind [l8]
theorem Rp(h:eZ T)(i:Nat):∀x∈bE T i,x.size<=100000:=λx a=>by
 have⟨t,b,c⟩:=Rq a;have:=(h t (by grind)).1
 grind
theorem OO(h:eZ T)(s:Sm):(bS T s).size<=100000:=by unfold bS;split;{grind [Kj]};{show(0:Nat)<=_;omega}
theorem zaE(h:eZ T)(j:Nat)(a:j<(ah T).length):(ay (ah T) j).k.size<=100000:=by have b:=((fz T).s j a).1.k;grind [Kj,ay,ah,fR,tS]
theorem rD(h:aL z2=true):cW z2=false:=by unfold aL at h;rw[Wr]at h;rcases h with h | h <;> exact ik h (by decide)
theorem Ez(h:aQ z2=true):cW z2=false:=by unfold aQ at h;rw[Wr]at h;rcases h with h | h <;> exact ik h (by decide)
theorem Ht(h:d∈ci T t w):d<w/\aQ (ay t d).k=true:=by grind [ci,uT,aQ,ay]
theorem O6:(kg T y yv S).length<=yv.length:=by grind [kg]
theorem O4(h:eZ T)(S:List Sm)(a:VB)(k i:Nat):((kg T S a k).getD i ⟨#[]⟩).size<=100000:=by rw[VM];unfold kg;rw[WD];cases ((a.take k).filter (λj=>((ay S j).k.toList == [36,102])))[i]? with|none=>show(0:Nat)<=_;omega|some j=>grind [Kj,ay,tS]
theorem KT(h:eZ T)(S:List Sm)(a:Nat):∀p∈fX T S a,p.1.size<=100000/\p.2.size<=100000:=by grind [fX,od,lV,O4]
theorem KU(a:S<=10000):(fX T y S).length<=100000000:=by grind [fX,O6,ci,mb,DG]
end
theorem Ow(u:b.heap[z8]?=some (aJ #[y5,bool true,bh o,y6,Q zt D.length S] 85))(w:dg b zt 6 lA D)(t:gN b o H y4 zf (ah H) x6 l)(p:H.length<=10000)(g:eZ H)(d:∀q,q<H.length->bM H (ah H) q=0)(n:RwE H (ah H) D)(r:zq D z6=some i) :
  aU 39 #[bh z8,Y z6] b λe z=>QW (tJ H (ah H) i) b e z:=by (have C:(ah H).length<=H.length:=qn H H.length;have E:i<D.length:=by grind [zq]);(have s:i<(ah H).length:=by rwa [<-n.len]);(have v:aL (ay (ah H) i).k=true:=by cases e:aL (ay (ah H) i).k;{unfold zq at r;have f:=XG r;unfold Vh at f;rw[n.no i s e]at f;cases f};{rfl});(have c:∀j,j<(ah H).length->cW (ay (ah H) j).k=false->dC H (ay (ah H) j).h:=by grind [rm,qF,fz]);(have x:=Ma H p d i (by omega);have y:=(Ma H p d _ (VC _)).ok.a;have sm:∀j (m:j<(ah H).length),ay (ah H) j=(ah H)[j]:=by grind [ay]);(refine Km z8 o i z6 H y4 zf (ah H) x6 l D zt S y5 y6 b u w (by rw[n.len];omega) t x s (c i s (rD v)) r (λA k j m=>?_) (KT g _ _) (by grind [mb]) (KU _ _ (by omega));have a:j<(ah H).length/\cW (ay (ah H) j).k=false:=by rcases m with m | rfl;{obtain⟨f,B⟩:=Ht m;grind [Ez]};grind [rD]);exact OT z8 o j H y4 zf (ah H) x6 l y5 _ y6 _ A (k.gt u) (t.YM k) a.1 p (sm j a.1 ▸ c j a.1 a.2) (by grind) (OO g _) (zaE g j a.1) (Rp g _) (by grind [ja])
theorem Dk(c:Int)(e:(c==0)=false)(w:World)(b:aU 60 #[bh S,Y z4] w (iw (tuple #[J 0,J c]) w)) :
  aU 39 #[bh S,Y z4] w (iw (tuple #[Q none 0 0,J c]) w):=by (have a:Z _:=b;have d:(c != 0)=true:=by grind);go_enter func39,ntmps39;go_wp2_with (go_at_call 60;refine dZ a ?_);exact VJ (v:=tuple #[Q none 0 0,J c]) (by simp[results,results39,go_sem]) rfl ⟨rfl,rfl⟩
def jJ(lo hi:Nat):VB:=List.range' lo (hi-lo)
theorem qm:M∈jJ w d ↔ w<=M/\M<d:=by grind [jJ]
def UsH(l:List St)(H:Nat->U)(q:Nat):Prop:=(H 6).Y0=some q∨∃i s,l[i]?=some s/\((H (10+2*i)).Y0=some q∨(H (11+2*i)).Y0=some q)
theorem UsH.inH(h:UsH yy yu w):eU yu w:=by rcases h with h | ⟨i,s,-,h | h⟩;{exact⟨6,h⟩};{exact⟨_,h⟩};{exact⟨_,h⟩}
theorem jB.ltU(h:jB x yy yu)(u:UsH yy yu w):w<x.heap.size:=by rcases u with u | ⟨i,s,a,u | u⟩;{exact h.Za.lt u};{exact(h.syms i s a).lt u};{exact(h.prfs i s a).lt u}
theorem jB.keptU(h:jB x yy yu)(k:O yg x I)(d:∀a,UsH yy yu a->a∉yg):jB I yy yu :=
 ⟨h.Za.YR (λa b=>k.block a (h.Za.lt b) (d a (VY b))),λi s c=>(h.syms i s c).YR (λa b=>k.block a ((h.syms i s c).lt b) (d a (VW ⟨i,s,c,VY b⟩))),λi s c=>(h.prfs i s c).YR (λa b=>k.block a ((h.prfs i s c).lt b) (d a (VW ⟨i,s,c,VW b⟩)))⟩
def zeq(w:World)(x:Nat)(fs:Fs)(lo hi:Nat):Option Nat->Prop
 | none=>lP w x fs
 | some k=>(k<fs.length/\((gQ fs k).1==0)=true)/\∃H g,sV w x fs (cO fs k).2.2.YY H g/\(lo<=g/\g<hi)/\∀q,UsH (cO fs k).2.2.YY H q->lo<=q/\q<hi
structure fE(w:World)(x:Nat)(fs:Fs)(lo hi:Nat)(st:Option Nat):Prop where
 z:hi<=w.heap.size
 s:zeq w x fs lo hi st
def zem(w:World)(v:Nat)(fs:Fs)(h:U)(lo hi:Nat):Option Nat->Prop
 | none=>∃p2 p3 p4,im w v fs h false p2 p3 p4
 | some k=>CA w v fs h (dD fs k).1 lo hi
structure eQ(w:World)(v:Nat)(fs:Fs)(h:U)(lo hi:Nat)(st:Option Nat):Prop where
 z:hi<=w.heap.size
 s:zem w v fs h lo hi st
theorem fE.anyS(a:fE x w N d M c):mW x w N:=by have:=a.s;cases c with|none=>exact lP.anyR this|some k=>have⟨_,H,g,h,_⟩:=this;exact h.anyR
theorem eQ.anyS(a:eQ x w N s d M c):∃b e f g,im x w N s b e f g:=by have:=a.s;cases c with|none=>exact⟨false,this⟩|some k=>exact⟨true,CA.rvAt this⟩
theorem fE.YZ(a:fE x w N d M c)(k:O yg x I)(m:∀q,q∈w :: jJ d M->q∉yg):fE I w N d M c:=by (refine⟨VK a.z k.size,?_⟩;have e:=m w Wx;have n:∀q,d<=q/\q<M->q∉yg:=by grind [qm]);have:=a.s;cases c with|none=>exact lP.YZ this k e|some j=>have⟨l,H,g,h,b,o⟩:=this;have⟨f,r,i,p⟩:=h.ver;exact⟨l,H,g,⟨⟨f,r,i,ce.YZ p k e⟩,h.YY.keptU k (by grind),k.get h.arr (n g b),h.far⟩,b,o⟩
theorem eQ.YZ(a:eQ x w N s d M c)(k:O yg x I)(f:∀q,q∈w :: (s.Y0.toList++jJ d M)->q∉yg):eQ I w N s d M c:=by (refine⟨VK a.z k.size,?_⟩;have e:=f w Wx;have b:∀q,s.Y0=some q->q∉yg:=by grind);(have g:∀q,d<=q->q<M->q∉yg:=by grind [qm]);have:=a.s;cases c with|none=>have⟨i,l,m,r⟩:=this;exact⟨i,l,m,r.keptS k e b⟩|some j=>exact CA.YZ this k e b g
theorem eQ.YM(a:eQ x w N s d M c)(k:aI x I):eQ I w N s d M c:=a.YZ k (by simp)
theorem fE.YM(a:fE x w N d M c)(k:aI x I):fE I w N d M c:=a.YZ k (by simp)
theorem fE.lt(a:fE x w N d M c)(q:Nat)(b:q∈w :: jJ d M):q<x.heap.size:=by rcases V9.1 b with e | e;{rw[e];exact a.anyS.lt};{have:=qm.1 e;have:=a.z;omega}
theorem eQ.lt{h:U}(a:eQ x w N h d M c)(q:Nat)(b:q∈w :: (h.Y0.toList++jJ d M)):q<x.heap.size:=by have⟨f,g,i,j,r⟩:=a.anyS;rcases V9.1 b with e | e;{rw[e];exact ae r.d};{rcases V7.1 e with e | e;{exact r.Za.lt (bG e)};{have:=qm.1 e;have:=a.z;omega}}
theorem fE.same(a:fE x w N d M c):∃b i l m,kH x w N b i l m/\∀e,kH e w N b i l m->O [w] x e->fE e w N d M c:=by have h:=a.s;cases c with|none=>exact⟨_,_,_,_,h,λe f k=>⟨VK a.z k.size,f⟩⟩|some j=>have⟨n,H,g,r,o,t⟩:=h;have⟨v,A,y,f⟩:=r.ver;refine⟨_,_,_,_,f,λe u k=>⟨VK a.z k.size,n,H,g,⟨by grind,r.YY.keptU k (λq p=>by simp;exact r.far.2 q p.inH),k.get r.arr (by simp;exact Ne.symm r.far.1),r.far⟩,o,t⟩⟩
def oD(c:Int)(st:Option Nat):Option Nat:=if c=0 then none else st
theorem uj(h:yz=0):oD yz c=none:=VO h
theorem wD(h:yz≠0):oD yz c=c:=VS h
theorem No(h:(gK N z2 y7).1≠0):(gK N z2 y7).2=N:=by grind [gK]
theorem za3(h:fE b o k l S u)(g:y1.size<=1073741824)(f:y2.size<=4294967296) :
  aU 13 #[bh o,Y y1,Y y2] b λe c=>e=cM (J (gK k y1 y2).1)/\fE c o (gK k y1 y2).2 l S (oD (gK k y1 y2).1 u)/\O [o] b c:=by by_cases a:(gK k y1 y2).1=0;{refine(UO o y1 y2 k b h.anyS g f).mono (λe c q=>⟨q.1,?_,q.2.2.2⟩);rw[uj a];exact⟨VK h.z q.2.2.2.size,q.2.2.1 a⟩};{have⟨d,n,p,r,m,j⟩:=h.same;refine(zby o y1 y2 k d n p r b m g f a).mono (λe c q=>⟨q.1,?_,q.2.2⟩);have i:=q.2.1;rw[No a]at i ⊢;rw[wD a];exact j c i q.2.2}
theorem IM(h:fE b o x5 l S u)(g:mX b y4 k)(d:oB k) :
  aU 29 #[bh o,Q y4 k.length zf] b λe c=>e=cM (J (eN k))/\fE c o (lp x5 k) l S (oD (eN k) u)/\O [o] b c:=by have⟨f,p,r,s,j,i⟩:=h.same;refine(QF o x5 k f p r s y4 zf b j g d).mono (λe c q=>⟨q.1,?_,q.2.2⟩);have⟨m,n⟩:=q.2.1;by_cases a:eN k=0;{rw[uj a];exact⟨VK h.z q.2.2.size,m a⟩};{have:=n a;rw[tL rfl a]at this ⊢;rw[wD a];exact i c this q.2.2}
theorem zab(a:eQ b o k z3 l S u)(m:y1.size<=1073741824)(j:y2.size<=4294967296) :
  aU 14 #[bh o,Y y1,Y y2] b λe f=>e=cM (J (gK k y1 y2).1)/\∃d,eQ f o (gK k y1 y2).2 d l S (oD (gK k y1 y2).1 u)/\O (o :: z3.Y0.toList) b f/\∀q,d.Y0=some q->z3.Y0=some q∨b.heap.size<=q:=by have⟨n,p,s,t,r⟩:=a.anyS;refine(Pw o k z3 n p s t y1 y2 b r m j).mono (λe f q=>⟨q.1,?_⟩);by_cases c:(gK k y1 y2).1=0;{have⟨d,v,g⟩:=q.2.1 c;rw[uj c];refine⟨d,⟨VK a.z g.YZ.size,_,_,_,v⟩,g.YZ,λq y=>?_⟩;rcases g.Y0 with e | ⟨w,e,x⟩;{grind};grind};{have i:=q.2.2 c;rw[wD c,No c];exact⟨z3,a.YM i,i.mono (by simp),λ_ e=>VY e⟩}
theorem GD(c:Vz)(b:Nat)(w:World)(a:eQ w o x5 z3 l S u)(s:pV w c b k)(v:c=none->k.length=0/\b=0)(t:∀n,c=some n->∃g,n=(aE g))(i:∀j,j<k.length->(aO k j).size<=1073741824/\(ak k j).size<=1073741824) :
  aU 30 #[bh o,Q c k.length b] w λe m=>e=cM (J (eN k))/\∃f,eQ m o (lp x5 k) f l S (oD (eN k) u)/\O (o :: z3.Y0.toList) w m/\∀q,f.Y0=some q->z3.Y0=some q∨w.heap.size<=q:=by have⟨y,A,B,C,r⟩:=a.anyS;refine(Ky o x5 k z3 y A B C c b w r s v t i).mono (λe m q=>⟨q.1,?_⟩);by_cases d:eN k=0;{have⟨f,D,g,x⟩:=q.2.1 d;rw[uj d];exact⟨f,⟨VK a.z g.size,_,_,_,D⟩,g,x⟩};{have p:=q.2.2 d;rw[wD d,tL rfl d];exact⟨z3,a.YM p,p.mono (by simp),λ_ e=>VY e⟩}
theorem GK(a:k.length<=4)(b:∀j,j<k.length->(ak k j).size<=1024)(c:S<k.length)(h:((gQ k S).1==0)=true):gQ k S=ew:=by grind [gQ,Sc,GL,dD,ah,Ax]
def qI(z lo hi lo1 hi1:Nat):Prop:=(lo1=lo/\hi1=hi)∨z<=lo1
theorem qI.mem{z lo hi:Nat}(h:qI z lo hi w d)(a:M∈jJ w d):M∈jJ lo hi∨z<=M:=by rcases h with ⟨rfl,rfl⟩ | h;{grind};grind [qm]
def VfX(w:World)(x:Nat)(fs:Fs)(lo hi:Nat)(f:sQ)(q:Int)(st:Option Nat)(e:Ending)(w':World):Prop :=
 e=cM (tuple #[jx f,J q])/\(∃lo1 hi1,fE w' x fs lo1 hi1 st/\qI w.heap.size lo hi lo1 hi1)/\O [x] w w'
def VfM(w:World)(m:Nat)(fs:Fs)(h:U)(lo hi:Nat)(f:sQ)(q:Int)(st:Option Nat)(e:Ending)(w':World):Prop :=
 e=cM (tuple #[jx f,J q])/\(∃lo1 hi1,eQ w' m fs h lo1 hi1 st/\qI w.heap.size lo hi lo1 hi1)/\O [m] w w'
theorem Rr(D:fE b z8 k i zf u)(v:k.length<=4)(n:∀j,j<k.length->(ak k j).size<=1024) :
  ∃(f:sQ) (q:Int) (y:Option Nat),aU 35 #[bh z8,Y z4] b (λe d=>VfX b z8 k i zf f q y e d) /\
   ∀a,eQ a o k z3 l S u->aU 36 #[bh o,Y z4] a (λe d=>VfM a o k z3 l S f q y e d):=by rcases tB z4 k with A | ⟨m,t,A⟩;{have⟨L,u0,u1,u2,hv,W⟩:=D.same;refine⟨ew,5,u,(Ju z8 k z4 L u0 u1 u2 b hv (by omega)).mono (λe d q=>⟨q.1,⟨i,zf,W d q.2.1 q.2.2,VY ⟨rfl,rfl⟩⟩,q.2.2⟩),λa c=>?_⟩;have⟨E,F,G,I,r⟩:=c.anyS;exact(CY o k z3 E F G I z4 a r (by rw[A];decide)).mono (λe d q=>⟨q.1,⟨l,S,c.YM q.2,VY ⟨rfl,rfl⟩⟩,q.2.mono (by simp)⟩)};{(have⟨M,_⟩:=Aw k m v n t;have x:=L7 z8 m k z4 b D.anyS A t n;have w:∀a,eQ a o k z3 l S u->aU 36 #[bh o,Y z4] a λe d=>VfR k m o z3 (gQ k m) (if((gQ k m).1==0)=true then 0 else 6) a e d:=λa c=>by have⟨E,F,G,I,r⟩:=c.anyS;exact FP o m k z3 E F G I z4 a r A t n);cases s:((gQ k m).1==0);{refine⟨gQ k m,6,none,x.mono (λe d q=>?_),λa c=>(w a c).mono (λe d q=>?_)⟩;{have⟨p,c⟩:=q;rw[M,s,mt]at p;exact⟨p.1,⟨i,zf,⟨VK D.z c.size,p.2⟩,VY ⟨rfl,rfl⟩⟩,c⟩};{rw[s,mt]at q;have⟨K,⟨_,q3⟩,B⟩:=q;exact⟨K,⟨l,S,⟨VK c.z B.size,q3 (by decide)⟩,VY ⟨rfl,rfl⟩⟩,B⟩}};{refine⟨gQ k m,0,some m,x.mono (λe d q=>?_),λa c=>(w a c).mono (λe d q=>?_)⟩;{have⟨p,c⟩:=q;rw[M,s,VO rfl]at p;have⟨p,H,g,C,R,T⟩:=p;exact⟨by rw[p,GK k m v n t s],⟨b.heap.size,d.heap.size,⟨VC _,⟨t,s⟩,H,g,C,⟨R,ae C.arr⟩,λP N=>⟨T P N.inH,C.YY.ltU N⟩⟩,VW (VC _)⟩,c⟩};{rw[s,VO rfl]at q;have⟨K,⟨q2,_⟩,B⟩:=q;have⟨ac,V,r⟩:=q2 rfl;exact⟨K,⟨ac,d.heap.size,⟨VC _,r⟩,VW V⟩,B⟩}}}
def zca(fs:Fs)(st:Option Nat)(lab:Vx):Vy×Int :=
 match st with
 | none=>([],7)
 | some k=>match iK (cO fs k).2.2.YY lab with
  | none=>([],8)
  | some n=>(A6 (cO fs k).2.2.YY n,0)
def FrM(L:Vy)(c:Int)(w:World)(e:Ending)(w':World):Prop:=∃h',e=cM (tuple #[Q h'.ao L.length h'.cap,J c])/\iz w w' h' (aG L)
theorem zJ(a:N.length<=4)(b:∀j,j<N.length->(ak N j).size<=1024)(d:w<N.length)(c:((gQ N w).1==0)=true):sR (dD N w).1 (cO N w).2.2/\(dD N w).1.length<=10000/\eZ (dD N w).1:=by grind [Aw,GU,wR]
theorem Fg(L:Vy)(a:L=[]):iz b b ⟨none,0⟩ (aG L):=by subst a;exact⟨VH ..,(by intro k c;cases c),O.refl ..⟩
theorem zdv(R:eQ b o k z3 l S u)(v:∀a,u=some a->a<k.length/\((gQ k a).1==0)=true)(t:k.length<=4)(w:∀j,j<k.length->(ak k j).size<=1024) :
  aU 39 #[bh o,Y z4] b λe i=>FrM (zca k u z4).1 (zca k u z4).2 b e i:=by have z:=R.s;cases u with|none=>have⟨T,V,W,r⟩:=z;refine(Dk o z4 7 (by decide) b (Gj o z4 _ T V W b r.d)).mono (λe i q=>⟨⟨none,0⟩,q.1,?_⟩);rw[q.2];exact Fg b _ rfl|some a=>{have⟨P,K⟩:=v a rfl;have⟨G,N,M⟩:=zJ t w P K;have⟨D,C,F,B,E,PS,h1,x,g,r⟩:=z;have m:=r.Y5.tell;have c:=aK.srcG (f:=lA) r.s2 (λ_=>rfl);have hl:(ah (dD k a).1).length<=(dD k a).1.length:=qn ..;have⟨H,I⟩:=Kn G m z4;unfold zca;simp only;cases y:iK (cO k a).2.2.YY z4 with|none=>have p:=H y;refine(Dk o z4 8 (by decide) b ((Ab o z4 x g.ao g.cap _ _ _ b r.rv.d c (by rw[m.len];omega)).mono (λe i q=>?_))).mono (λe i q=>⟨⟨none,0⟩,q.1,?_⟩);{have⟨A,q2⟩:=q;rw[p]at A;exact⟨A,q2⟩};{rw[q.2];exact Fg b _ rfl}|some n=>have⟨p,L⟩:=I n y;simp only;rw[L];exact Ow o D _ z4 _ C F B E x g.ao g.cap _ _ b r.rv.d c r.db N M G.u m p}
def RwM(w:World)(e:Ending)(w':World):Prop:=∃(L:List jO) (h':U),e=cM (Q h'.ao L.length h'.cap)/\iz w w' h' (iu L)/\L.length<=100000
theorem RQ(z:eQ b o k z3 l S u)(m:∀a,u=some a->a<k.length/\((gQ k a).1==0)=true)(i:k.length<=4)(n:∀j,j<k.length->(ak k j).size<=1024) :
  aU 21 #[bh o] b λe p=>RwM b e p:=by have w:=z.s;cases u with|none=>have⟨A,B,C,r⟩:=w;refine(Qa o _ A B C b r.d).mono (λe p q=>⟨[],⟨none,0⟩,q.1,?_,by simp⟩);rw[q.2];exact⟨VH ..,(by intro a g;cases g),O.refl ..⟩|some a=>(have⟨g,y⟩:=m a rfl;have⟨G,R,P⟩:=zJ i n g y;have⟨K,I,M,H,L,F,N,t,v,r⟩:=w;have T:(ah (dD k a).1).length<=(dD k a).1.length:=qn ..;have c:t.length<=100000:=by rw[r.Y5.tell.len];omega);refine(P9 o t v.ao v.cap _ _ _ b r.rv.d (aK.srcG (f:=lA) r.s2 (λ_=>rfl)) c).mono (λe p q=>?_);have⟨x,D,E⟩:=q;exact⟨_,x,D,E,VK (XR ..) c⟩
def vO(b t:Nat)(c:List Value):It where
 B:=[b]
 P w:=w.heap[b]?=some (aJ c.toArray t)
 lt w h q hq:=by rw[VR.1 hq];exact ae h
 ok S w w' h k hb:=k.get h (hb b (by simp))
def dw(h:U)(r:eR):It where
 B:=h.Y0.toList
 P w:=aK w h r
 lt w o q hq:=o.lt (bG hq)
 ok S w w' o k hb:=o.YR (λq hq=>k.block q (o.lt hq) (hb q (by rw[hq];simp)))
def itV(x:Nat)(fs:Fs)(lo hi:Nat)(st:Option Nat):It where
 B:=x :: jJ lo hi
 P w:=fE w x fs lo hi st
 lt _ a q hq:=a.lt q hq
 ok _ _ _ a k hb:=a.YZ k hb
def itR(v:Nat)(h:U)(fs:Fs)(lo hi:Nat)(st:Option Nat):It where
 B:=v :: (h.Y0.toList++jJ lo hi)
 P w:=eQ w v fs h lo hi st
 lt _ a q hq:=a.lt q hq
 ok _ _ _ a k hb:=a.YZ k hb
def JN(fs:Fs):Prop:=∀j,j<fs.length->(ak fs j).size<=1024
structure km(w:World)(bo:Option Nat)(fs:Fs):Prop where
 nil:bo=none->fs=[]
 Y0:∀b,bo=some b->w.heap[b]?=some (aJ (uZ fs).toArray 68)
def yS(bo:Option Nat)(fs:Fs):It where
 B:=bo.toList
 P w:=km w bo fs
 lt w a q hq:=by
  cases bo with
  | none=>cases hq
  | some b=>rw[Option.toList_some,VR]at hq;rw[hq];exact ae (a.Y0 b rfl)
 ok S w w' a k hb:=⟨a.nil,λb e=>k.get (a.Y0 b e) (hb b (by rw[e];simp))⟩
def Fc(x:Option Nat×Fs):Value:=Q (A8 x.1) x.2.length x.2.length
def jK(l:List (Option Nat×Fs)):eR:=⟨33,1,l.length,l.map Fc⟩
def ptV(x:Nat):Value:=bh x
def nE(t:Nat)(l:VB):eR:=⟨t,1,l.length,l.map ptV⟩
structure Mc where
 hx:U
 hm:U
 hr:U
 hl:U
 hc:U
 V:List (Nat×Nat×Fs)
 reg:Fs
 L:List (Option Nat×Option Nat×Fs)
 a:Int
 n:Int
 e:Int
 u:Int
 s:Vx
 p:Int
 q:Int
 f:Vx
 i:Int
 j:Int
 qv:Value
 tv:Value
def Mc.cells(M:Mc):List Value:=[Q M.hx.ao M.V.length M.hx.cap,Q M.hm.ao M.V.length M.hm.cap,Q M.hr.ao M.reg.length M.hr.cap,Q M.hl.ao M.L.length M.hl.cap,Q M.hc.ao M.L.length M.hc.cap,J M.a,J M.n,J M.e,J M.u,Y M.s,J M.p,J M.q,Y M.f,J M.i,J M.j,M.qv,M.tv]
structure du(w:World)(b:Nat)(I:Nat×Nat->It)(M:Mc)(N:Nat):Prop where
 sep:ru w I
 w0:I (0,0)=vO b 42 M.cells
 x:I (1,0)=dw M.hx (nE 46 (M.V.map (·.1)))
 m:I (2,0)=dw M.hm (nE 47 (M.V.map (·.2.1)))
 r:I (3,0)=dw M.hr (dE M.reg)
 ls:I (4,0)=dw M.hl (jK (M.L.map (λl=>(l.1,l.2.2))))
 lw:I (5,0)=dw M.hc (jK (M.L.map (λl=>(l.2.1,l.2.2))))
 v:∀i x m fs,M.V[i]?=some (x,m,fs)->(∃st h lo hi lo2 hi2,I (6,i)=itV x fs lo hi st/\I (7,i)=itR m h fs lo2 hi2 st)/\JN fs
 l:∀k a c fs,M.L[k]?=some (a,c,fs)->I (8,k)=yS a fs/\I (9,k)=yS c fs/\oB fs/\fs.length<=N
 fit:oB M.reg
 len:M.V.length<=N/\M.reg.length<=N/\M.L.length<=N
 rng:ui M.a/\ui M.n/\ui M.e
structure vy(I:Nat×Nat->It)(M:Mc)(I':Nat×Nat->It)(M':Mc):Prop where
 k:∀j i,10<=j->I' (j,i)=I (j,i)
 q:M'.qv=M.qv
 t:M'.tv=M.tv
theorem vy.refl(M:Mc):vy r M r M:=⟨λ_ _ _=>rfl,rfl,rfl⟩
theorem sg{a:It}(b:w<10)(c:10<=M):gZ L (w,d) a (M,x7)=L (M,x7):=aD _ _ (cm (by omega))
theorem du.YM{M:Mc}(h:du x w L M d)(k:aI x I):du I w L M d:={ h with sep:=h.sep.YM k }
theorem du.more{M:Mc}(h:du x w L M d):du x w L M (d+1) :=
 { h with l:=λk a c b e=>by have⟨f,g,i,j⟩:=h.l k a c b e;grind,len:=by have⟨f,g,i⟩:=h.len;omega }
theorem du.Y0{M:Mc}(h:du x w L M d):x.heap[w]?=some (aJ M.cells.toArray 42):=by have:=h.sep.all (0,0);rw[h.w0]at this;exact this
theorem du.ownX{M:Mc}(h:du x w L M d):aK x M.hx (nE 46 (M.V.map (·.1))):=by have:=h.sep.all (1,0);rw[h.x]at this;exact this
theorem du.ownM{M:Mc}(h:du x w L M d):aK x M.hm (nE 47 (M.V.map (·.2.1))):=by have:=h.sep.all (2,0);rw[h.m]at this;exact this
theorem du.ownR{M:Mc}(h:du x w L M d):aK x M.hr (dE M.reg):=by have:=h.sep.all (3,0);rw[h.r]at this;exact this
theorem du.ownL{M:Mc}(h:du x w L M d):aK x M.hl (jK (M.L.map (λl=>(l.1,l.2.2)))):=by have:=h.sep.all (4,0);rw[h.ls]at this;exact this
theorem du.ownC{M:Mc}(h:du x w L M d):aK x M.hc (jK (M.L.map (λl=>(l.2.1,l.2.2)))):=by have:=h.sep.all (5,0);rw[h.lw]at this;exact this
theorem ru.grow(c:ru x L)(e:L yd=dw s v3)(g:bU x I s y9)(o:aK I y9 x9):ru I (gZ L yd (dw y9 x9)):=by refine c.put yd _ (e ▸ g.YZ) o (λq a=>?_);have a:=bG a;rcases g.Y0 with b | ⟨d,b,f⟩;{left;rw[e];show q∈s.Y0.toList;grind};grind
theorem ru.turn{a:List Value}(s:ru x L)(e:L yd=vO w d xa)(g:O [w] x I)(o:I.heap[w]?=some (aJ a.toArray d)):ru I (gZ L yd (vO w d a)) :=
 s.put yd _ (e ▸ g) o (λq b=>by rw[e];exact VY b)
def j7(b:Nat)(I:Nat×Nat->It)(M:Mc)(N:Nat)(r:Bool)(e:Ending)(w':World):Prop:=e=cM (bool r)/\∃I' M',du w' b I' M' (N+1)/\vy I M I' M'
theorem du.turn0{M M':Mc}(h:du x w L M d)(e:(M'.hx=M.hx/\M'.hm=M.hm/\M'.hr=M.hr/\M'.hl=M.hl/\M'.hc=M.hc)/\M'.V=M.V/\M'.reg=M.reg/\M'.L=M.L)(k:O [w] x I)(o:I.heap[w]?=some (aJ M'.cells.toArray 42))(A:ui M'.a/\ui M'.n/\ui M'.e):du I w (gZ L (0,0) (vO w 42 M'.cells)) M' d:=by
 (obtain⟨⟨s,t,u,y,z⟩,c,j,f⟩:=e;have q:∀a i,a≠0->gZ L (0,0) (vO w 42 M'.cells) (a,i)=L (a,i):=by grind [aD,cm])
 exact {
  sep:=h.sep.turn h.w0 k o
  w0:=dr _ _ _
  x:=by rw[q 1 0 (by decide),s,c];exact h.x
  m:=by rw[q 2 0 (by decide),t,c];exact h.m
  r:=by rw[q 3 0 (by decide),u,j];exact h.r
  ls:=by rw[q 4 0 (by decide),y,f];exact h.ls
  lw:=by rw[q 5 0 (by decide),z,f];exact h.lw
  v:=λi g m p b=>by rw[q 6 i (by decide),q 7 i (by decide)];rw[c]at b;exact h.v i g m p b
  l:=λi g m p b=>by rw[q 8 i (by decide),q 9 i (by decide)];rw[f]at b;exact h.l i g m p b
  fit:=by rw[j];exact h.fit
  len:=by rw[c,j,f];exact h.len
  rng:=A }
theorem du.boxed{M:Mc}(h:du x w L M d)(k a c b:Int)(s t:Vx)(W:World)(e:x.alloc (aJ #[J k,J a,J c,J b,Y s,Y t] 28)=W) :
  du W w L M d/\W.heap[x.heap.size]?=some (aJ #[J k,J a,J c,J b,Y s,Y t] 28)/\w<x.heap.size/\aI x W:=by (have f:aI x W:=by rw[<-e];exact bQ.alloc _);exact⟨h.YM f,by rw[<-e];exact VD _ _,ae h.Y0,f⟩
theorem dO{a c d:Int}(h:x.heap[w]?=some (aJ #[J yz,J a,J c,J d,Y z2,Y y7] 28)) :
  aP x w 0 (J yz)/\aP x w 1 (J a)/\aP x w 2 (J c)/\aP x w 3 (J d)/\aP x w 4 (Y z2)/\aP x w 5 (Y y7)/\w<x.heap.size:=by grind [ae,bR]
theorem zcO(M:Mc)(A C D:Int)(s t:Vx)(w:World)(h:du w l r M S)(f:ui A)(i:ui C)(j:ui D) :
  aU 10 #[bh l,agg #[J 7,J A,J C,J D,Y s,Y t]] w λe m=>j7 l r M S true e m:=by
 obtain⟨W,c⟩:=aX (w.alloc (aJ #[J 7,J A,J C,J D,Y s,Y t] 28));obtain⟨b,g,k,-⟩:=h.boxed 7 A C D s t W c;obtain⟨x,y,z,B,E,F,G⟩:=dO g;have p:aP W l 5 (J M.a):=bR b.Y0 rfl;have q:aP W l 6 (J M.n):=bR b.Y0 rfl;have u:aP W l 7 (J M.e):=bR b.Y0 rfl;have v:=au b.Y0;have d:Z (du (((W.setCell (X l 5) (J A)).setCell (X l 6) (J C)).setCell (X l 7) (J D)) l _ { M with a:=A,n:=C,e:=D } S) :=
  b.turn0 (M':={ M with a:=A,n:=C,e:=D }) ⟨by simp,rfl,rfl,rfl⟩ ((((O.refl [l] _).sl1 _).sl1 _).sl1 _) (by rw[ab (ab (ab b.Y0 5 _) 6 _) 7 _];rfl) ⟨f,i,j⟩
 go_enter func10,ntmps10;go_upto_region 1 with fail;rw[c.o];go_wp2;go_ret;exact⟨rfl,_,_,d.o.more,⟨by grind [sg],rfl,rfl⟩⟩
theorem zaL(M:Mc)(A C D:Int)(s t:Vx)(w:World)(h:du w l r M S) :
  aU 10 #[bh l,agg #[J 16,J A,J C,J D,Y s,Y t]] w λe g=>j7 l r M S true e g:=by
 obtain⟨W,b⟩:=aX (w.alloc (aJ #[J 16,J A,J C,J D,Y s,Y t] 28));obtain⟨a,d,f,-⟩:=h.boxed 16 A C D s t W b;obtain⟨k,m,n,p,q,v,x⟩:=dO d;have j:=au a.Y0;have i:aP W l 8 (J M.u):=bR a.Y0 rfl;have c:Z (du (W.setCell (X l 8) (J A)) l _ { M with u:=A } S) :=
  a.turn0 (M':={ M with u:=A }) ⟨by simp,rfl,rfl,rfl⟩ ((O.refl [l] _).sl1 _) (by rw[ab a.Y0 8 _];rfl) a.rng
 go_enter func10,ntmps10;go_upto_region 1 with fail;rw[b.o];go_wp2;go_ret;exact⟨rfl,_,_,c.o.more,⟨by grind [sg],rfl,rfl⟩⟩
theorem zaM(M:Mc)(A C D:Int)(s t:Vx)(w:World)(h:du w l r M S)(i:M.qv=Q none 0 0) :
  aU 10 #[bh l,agg #[J 17,J A,J C,J D,Y s,Y t]] w λe j=>j7 l r M S true e j:=by (obtain⟨W,a⟩:=aX (w.alloc (aJ #[J 17,J A,J C,J D,Y s,Y t] 28));obtain⟨b,f,g,-⟩:=h.boxed 17 A C D s t W a;obtain⟨k,m,n,p,q,u,v⟩:=dO f;have d:W.cell? (X l 15)=some (Q none 0 0):=by rw[aC b.Y0,<-i];rfl);have c:Z (du W l r M S):=b;go_enter func10,ntmps10;go_upto_region 1 with fail;rw[a.o];go_wp2;go_ret;exact⟨rfl,_,_,c.o.more,vy.refl _ _⟩
theorem nt(M:Mc)(k A C D:Int)(s t:Vx)(w:World)(h:du w l r M S)(q:(8<=k/\k<=14)∨19<=k) :
  aU 10 #[bh l,agg #[J k,J A,J C,J D,Y s,Y t]] w (kt (bool false) w):=by (obtain⟨W,c⟩:=aX (w.alloc (aJ #[J k,J A,J C,J D,Y s,Y t] 28));obtain⟨p,e,f,b⟩:=h.boxed k A C D s t W c;obtain⟨F,-⟩:=dO e;have d:Z (aI w W):=b;have a:∀m:Int,(k=m->False)->(k==m)=false:=by simp);have u:=a 1 (by omega);have v:=a 2 (by omega);have x:=a 3 (by omega);have y:=a 4 (by omega);have z:=a 5 (by omega);have B:=a 6 (by omega);have E:=a 7 (by omega);have g:=a 15 (by omega);have i:=a 16 (by omega);have j:=a 17 (by omega);have n:=a 18 (by omega);go_enter func10,ntmps10;go_upto_region 1 with fail;rw[c.o];go_wp2;go_ret;exact⟨rfl,d⟩
theorem zaK(M:Mc)(A C D:Int)(s t:Vx)(w:World)(h:du w l r M S) :
  aU 10 #[bh l,agg #[J 15,J A,J C,J D,Y s,Y t]] w λe y=>j7 l r M S true e y:=by
 obtain⟨W,b⟩:=aX (w.alloc (aJ #[J 15,J A,J C,J D,Y s,Y t] 28));obtain⟨a,v,x,-⟩:=h.boxed 15 A C D s t W b;obtain⟨F,G,H,I,K,L,N⟩:=dO v;have E:=au a.Y0;have z:aP W l 8 (J M.u):=bR a.Y0 rfl;have B:aP W l 9 (Y M.s):=bR a.Y0 rfl;have d:aP W l 10 (J M.p):=bR a.Y0 rfl;have g:aP W l 11 (J M.q):=bR a.Y0 rfl;have k:aP W l 12 (Y M.f):=bR a.Y0 rfl;have m:aP W l 13 (J M.i):=bR a.Y0 rfl;have n:aP W l 14 (J M.j):=bR a.Y0 rfl;have c:Z (du (((((((W.setCell (X l 9) (Y s)).setCell (X l 10) (J A)).setCell (X l 11) (J C)).setCell (X l 12) (Y t)).setCell (X l 13) (J D)).setCell (X l 14) (J M.u)).drew) l _ { M with s:=s,p:=A,q:=C,f:=t,i:=D,j:=M.u } S) :=
  (a.turn0 (M':={ M with s:=s,p:=A,q:=C,f:=t,i:=D,j:=M.u }) ⟨by simp,rfl,rfl,rfl⟩ ((((((((O.refl [l] _).sl1 _).sl1 _).sl1 _).sl1 _).sl1 _).sl1 _)) (by rw[ab (ab (ab (ab (ab (ab a.Y0 9 _) 10 _) 11 _) 12 _) 13 _) 14 _];rfl) a.rng).YM bQ.drew
 go_enter func10,ntmps10;go_upto_region 1 with fail;rw[b.o];go_upto_region 38 with fail;go_region;(all_goals go_wp2);(all_goals go_ret);(all_goals exact⟨rfl,_,_,c.o.more,⟨by grind [sg],rfl,rfl⟩⟩)
theorem du.clear{M:Mc}(h:du x w L M d)(k:O [w] x I)(o:I.heap[w]?=some (aJ ({ M with hr:=⟨none,0⟩,reg:=[] }:Mc).cells.toArray 42)):∃g,du I w g { M with hr:=⟨none,0⟩,reg:=[] } d/\vy L M g { M with hr:=⟨none,0⟩,reg:=[] }:=by
 have s:=h.sep.turn h.w0 k o;have t:=s.put (3,0) (dw ⟨none,0⟩ (dE [])) ((O.refl _ I).mono (λ_ p _=>p)) (VH _ _ _ _) (λq n=>by cases n);refine⟨gZ (gZ L (0,0) (vO w 42 ({ M with hr:=⟨none,0⟩,reg:=[] }:Mc).cells)) (3,0) (dw ⟨none,0⟩ (dE [])),?_,?_⟩;rotate_left;{exact⟨by grind [sg],rfl,rfl⟩};(have q:∀a i,a≠0->a≠3->(gZ (gZ L (0,0) (vO w 42 ({ M with hr:=⟨none,0⟩,reg:=[] }:Mc).cells)) (3,0) (dw ⟨none,0⟩ (dE []))) (a,i)=L (a,i):=by grind [aD,cm])
 exact {
  sep:=t
  w0:=by rfl
  x:=by rw[q 1 0 (by decide) (by decide)];exact h.x
  m:=by rw[q 2 0 (by decide) (by decide)];exact h.m
  r:=dr _ _ _
  ls:=by rw[q 4 0 (by decide) (by decide)];exact h.ls
  lw:=by rw[q 5 0 (by decide) (by decide)];exact h.lw
  v:=λi c m e f=>by rw[q 6 i (by decide) (by decide),q 7 i (by decide) (by decide)];exact h.v i c m e f
  l:=λi c m e f=>by rw[q 8 i (by decide) (by decide),q 9 i (by decide) (by decide)];exact h.l i c m e f
  fit:=λj=>⟨by show(0:Nat)<=_;omega,by show(0:Nat)<=_;omega⟩
  len:=⟨h.len.1,V5 _,h.len.2.2⟩
  rng:=h.rng }
theorem zcK(b N:Nat)(I:Nat×Nat->It)(M:Mc)(A C D:Int)(s t:Vx)(w:World)(h:du w b I M N) :
  aU 10 #[bh b,agg #[J 3,J A,J C,J D,Y s,Y t]] w λe m=>j7 b I M N true e m:=by
 obtain⟨W,f⟩:=aX (w.alloc (aJ #[J 3,J A,J C,J D,Y s,Y t] 28));obtain⟨c,i,k,-⟩:=h.boxed 3 A C D s t W f;obtain⟨q,r,u,v,x,y,z⟩:=dO i;have p:=au c.Y0;have n:aP W b 2 (Q M.hr.ao M.reg.length M.hr.cap):=bR c.Y0 rfl;have g:Z (∃a,du (W.setCell (X b 2) (Q none 0 0)) b a { M with hr:=⟨none,0⟩,reg:=[] } N/\vy I M a { M with hr:=⟨none,0⟩,reg:=[] }) :=
  c.clear ((O.refl [b] _).sl1 _) (by rw[ab c.Y0 2 _];rfl)
 go_enter func10,ntmps10;go_upto_region 1 with fail;rw[f.o];go_wp2;go_ret;obtain⟨a,j,d⟩:=g.o;exact⟨rfl,a,_,j.more,d⟩
theorem dX{d:List Oper}(H:ya.guard=none)(s x:Operand)(t:TypeId)(q:ya.op=Op.call { callee:=Callee.builtin Builtin.append,args:=#[s,x],argTypes:=#[t,t] })(i:TypeInfo)(z:Value)(c:Nat)(h:U)(r:eR)(a:List Value)(w:yf.underlying t=some (.slice r.e))(y:yf.info? r.e=some i)(A:i.zero=some z)(B:i.size=r.size)(C:i.bytes=c)(D:z.cells.size=r.size)(E:0<r.size)(M:yr.eval s=slice h.ao r.n h.cap)(f:aK b h r)(T:r.n<=4294967296)(G:c<=1000)(N:yr.eval x=slice (some ⟨b.heap.size,0,none⟩) 1 1)(V:a.length=r.size)(m:∀u∈a,u.oneCell'=true)(F:∀l k,aK k l ⟨r.e,r.size,r.n+1,r.xs++a⟩->bU b k h l->wpList yf xz v0 d (yr.put ya.dst (slice l.ao (r.n+1) l.cap)) k) :
  wpList yf xz v0 (ya :: d) yr (b.alloc (.cells a.toArray r.e)):=by have v:O [] b (b.alloc (.cells a.toArray r.e)):=bQ.alloc _;have L:(b.alloc (.cells a.toArray r.e)).heap[b.heap.size]?=some (.cells a.toArray r.e):=VD _ _;obtain⟨p,k,g,P,R⟩:=sZ (P:=yf) (b.alloc (.cells a.toArray r.e)) t ya.type i z c h r w y A B C D E (f.YM v) (some ⟨b.heap.size,0,none⟩) 1 1 a (by omega) (λe=>by cases e) (λS e j u I=>by cases e;rw[bO,aC L];simpa using I) m (by unfold maxLen;omega) (VK (Wm (show r.n+1<=4294967297 by omega) G) (by omega));refine wpList_plain H λK o=>?_;unfold Oper.wp;simp[execOp,q,resolve,invoke,builtin,M,N,g,Result.andThen];exact o _ _ (F p k P ((bU.YM v).trans R))
theorem yA{K:Act->World->Prop}{E:Prop}(H:ya.guard=none)(s x:Operand)(t:TypeId)(p:ya.op=Op.call { callee:=Callee.builtin Builtin.append,args:=#[s,x],argTypes:=#[t,t] })(i:TypeInfo)(z:Value)(c:Nat)(h:U)(r:eR)(a:List Value)(v:yf.underlying t=some (.slice r.e))(w:yf.info? r.e=some i)(y:i.zero=some z)(A:i.size=r.size)(B:i.bytes=c)(C:z.cells.size=r.size)(D:0<r.size)(M:yr.eval s=Q h.ao r.n h.cap)(k:aK b h r)(V:r.n<=4294967296)(G:c<=1000)(P:yr.eval x=Q (some (aE b.heap.size)) 1 1)(W:a.length=r.size)(o:∀u∈a,u.oneCell'=true)(F:∀f d m,aK m ⟨f,d⟩ ⟨r.e,r.size,r.n+1,r.xs++a⟩->bU b m h ⟨f,d⟩->K (yr.put ya.dst (Q f (r.n+1) d)) m) :
  if Region.wanted ya (yielded xz yr.tmps)=true then Oper.wp yf ya yr (b.alloc (aJ a.toArray r.e)).drew K v0 else E:=by (have q:aI b (b.alloc (aJ a.toArray r.e)).drew:=(bQ.alloc _).drew;have L:(b.alloc (aJ a.toArray r.e)).drew.heap[b.heap.size]?=some (aJ a.toArray r.e):=VD _ _;obtain⟨g,m,l,R,S⟩:=sZ (P:=yf) (b.alloc (aJ a.toArray r.e)).drew t ya.type i z c h r v w y A B C D (k.YM q) (some (aE b.heap.size)) 1 1 a (by omega) (λe=>by cases e) (λT e j u I=>by cases e;rw[bO,aC L];simpa using I) o (by unfold maxLen;omega) (VK (Wm (show r.n+1<=4294967297 by omega) G) (by omega));have N:Region.wanted ya (yielded xz yr.tmps)=true:=by simp[Region.wanted,H]);rw[VO N];unfold Oper.wp;simp[execOp,p,resolve,invoke,builtin,M,P,l,Result.andThen];exact F g.ao g.cap m R ((bU.YM q).trans S)
theorem ru.grown(f:ru x L)(i:L (0,0)=vO w d xa)(k:yd≠(0,0))(e:L yd=dw s v3)(g:bU x I s y9)(o:aK I y9 x9)(j:Nat)(v:Value) :
  ru (I.setCell (X w j) v) (gZ (gZ L yd (dw y9 x9)) (0,0) (vO w d (xa.set j v))):=by (have c:=f.grow e g o;have a:gZ L yd (dw y9 x9) (0,0)=vO w d xa:=by grind [aD]);refine c.turn a ((O.refl [w] _).sl1 _) ?_;have b:=c.all (0,0);rw[a]at b;rw[ab (show I.heap[w]?=some (aJ xa.toArray d) from b) j v,Wd]
theorem PY(f:Vx×Vx):∀u∈fiV f,u.oneCell'=true:=by intro u a;simp only[fiV,List.mem_cons,List.not_mem_nil,or_false]at a;rcases a with rfl | rfl <;> rfl
theorem EQ(h:oB N)(b:z2.size<=1073741824)(a:y7.size<=1073741824):oB (N++[(z2,y7)]):=by intro j;have:=h j;grind [aO,ak]
theorem du.addR{M:Mc}(h:du x w L M d)(g:bU x I M.hr s)(o:aK I s (dE (M.reg++[(z2,y7)])))(p:z2.size<=1073741824)(n:y7.size<=1073741824):∃j k,du (I.setCell (X w 2) (Q s.ao (M.reg.length+1) s.cap)) w j k (d+1)/\vy L M j k:=by
 have t:=h.sep.grown h.w0 (cm (by decide)) h.r g o 2 (Q s.ao (M.reg.length+1) s.cap);refine⟨gZ (gZ L (3,0) (dw s (dE (M.reg++[(z2,y7)])))) (0,0) (vO w 42 (M.cells.set 2 (Q s.ao (M.reg.length+1) s.cap))),{ M with hr:=s,reg:=M.reg++[(z2,y7)] },?_,?_⟩;rotate_left;{exact⟨by grind [sg],rfl,rfl⟩};(have q:∀a i,a≠0->a≠3->(gZ (gZ L (3,0) (dw s (dE (M.reg++[(z2,y7)])))) (0,0) (vO w 42 (M.cells.set 2 (Q s.ao (M.reg.length+1) s.cap)))) (a,i)=L (a,i):=by grind [aD,cm]);have e:=h.more
 exact {
  sep:=t
  w0:=by grind [dr,Mc.cells]
  x:=by rw[q 1 0 (by decide) (by decide)];exact h.x
  m:=by rw[q 2 0 (by decide) (by decide)];exact h.m
  r:=by rfl
  ls:=by rw[q 4 0 (by decide) (by decide)];exact h.ls
  lw:=by rw[q 5 0 (by decide) (by decide)];exact h.lw
  v:=λi b m c f=>by rw[q 6 i (by decide) (by decide),q 7 i (by decide) (by decide)];exact h.v i b m c f
  l:=λi b m c f=>by rw[q 8 i (by decide) (by decide),q 9 i (by decide) (by decide)];exact e.l i b m c f
  fit:=EQ h.fit p n
  len:=⟨e.len.1,by have:=h.len.2.1;grind,e.len.2.2⟩
  rng:=h.rng }
theorem zcJ(M:Mc)(A C D:Int)(s t:Vx)(w:World)(h:du w l r M S)(hN:S<=1073741824)(K:s.size<=1073741824)(L:t.size<=1073741824) :
  aU 10 #[bh l,agg #[J 2,J A,J C,J D,Y s,Y t]] w λe P=>j7 l r M S true e P:=by (obtain⟨W,u⟩:=aX (w.alloc (aJ #[J 2,J A,J C,J D,Y s,Y t] 28));obtain⟨a,G,H,-⟩:=h.boxed 2 A C D s t W u;obtain⟨o0,o1,o2,o3,o4,o5,oz⟩:=dO G;obtain⟨N,m,d,f,g⟩:=VT E1;have T:=ae a.Y0;have V:aP W l 2 (Q M.hr.ao M.reg.length M.hr.cap):=bR a.Y0 rfl;have q:Z (du W l r M S):=a;have j:=a.ownR;have k:Z ((dE M.reg).n<=4294967296):=by show M.reg.length<=_;have:=h.len.2.1;omega);have i:Z ((dE M.reg).n=M.reg.length):=rfl;have b:Z (l∉M.hr.Y0.toList):=λI=>a.sep.far (0,0) (3,0) (cm (by decide)) l (by rw[a.w0];exact VR.2 rfl) (by rw[a.r];exact I);go_enter func10,ntmps10;go_upto_region 1 with fail;rw[u.o];go_upto_region 9 with fail;go_region_law (refine yA W rfl (.tmp 51) (.tmp 57) 33 rfl N (agg #[bN,bN]) 32 M.hr (dE M.reg) (fiV (s,t)) underlying33 m d f g rfl XW (by rfl) j k (by omega) (by rfl) rfl (PY (s,t)) ?_;intro B v R c dm;have p:=dm.YZ.get q.o.Y0 b;have f5:=au p 2;have c5:aP R l 2 (Q M.hr.ao M.reg.length M.hr.cap):=(bR p rfl);have z5:=ae p);all_goals(rw[Bw]at c;have x:Z _:=q.o.addR dm c K L;rw[i.o];go_wp2;go_ret;obtain⟨y,z,E,F⟩:=x.o;exact⟨rfl,y,z,E,F⟩)
theorem zcA:(prog.info? 46).map (λi=>(i.zero,i.size,i.bytes))=some (some (pointer none),1,8):=by kernel_rfl
theorem zcx:(prog.info? 47).map (λi=>(i.zero,i.size,i.bytes))=some (some (pointer none),1,8):=by kernel_rfl
theorem DO:(⟨(nE l yv).e,(nE l yv).size,(nE l yv).n+1,(nE l yv).xs++[ptV S]⟩:eR)=nE l (yv++[S]):=by simp[nE]
theorem du.addV{f:Nat×Nat->It}{a:Mc}(h:du x w L a d)(c:f=gZ (gZ L (6,a.V.length) (itV M [] 0 0 none)) (7,a.V.length) (itR x7 ⟨none,0⟩ [] 0 0 none))(t:ru I (gZ (gZ (gZ (gZ f (1,0) (dw s (nE 46 (a.V.map (·.1)++[M])))) (0,0) (vO w 42 (a.cells.set 0 (Q s.ao (a.V.length+1) s.cap)))) (2,0) (dw y9 (nE 47 (a.V.map (·.2.1)++[x7])))) (0,0) (vO w 42 ((a.cells.set 0 (Q s.ao (a.V.length+1) s.cap)).set 1 (Q y9.ao (a.V.length+1) y9.cap))))) :
  ∃n o,du I w n o (d+1)/\vy L a n o:=by refine⟨_,{ a with hx:=s,hm:=y9,V:=a.V++[(M,x7,[])] },⟨t,?_,?_,?_,?_,?_,?_,?_,?_,?_,?_,?_⟩,?_⟩;{grind [dr,Mc.cells]};{grind [aD,cm,dr]};{grind [aD,cm,dr]};{subst c;simp[gZ];exact h.r};{subst c;simp[gZ];exact h.ls};{subst c;simp[gZ];exact h.lw};{intro i k m g b;rw[aD _ _ (cm (by decide)),aD _ _ (cm (by decide)),aD _ _ (cm (by decide)),aD _ _ (cm (by decide)),aD _ _ (cm (by decide)),aD _ _ (cm (by decide)),aD _ _ (cm (by decide)),aD _ _ (cm (by decide))];replace b:(a.V++[(M,x7,[])])[i]?=some (k,m,g):=b;subst c;by_cases e:i<a.V.length;{rw[Wh e]at b;rw[aD _ _ (cm (by decide)),aD _ _ (xZ (by omega)),aD _ _ (xZ (by omega)),aD _ _ (cm (by decide))];exact h.v i k m g b};{(have p:i=a.V.length:=by have:=(V4.1 b).1;rw[VQ]at this;have:i<a.V.length+1:=this;omega);subst p;rw[Wp (VC _),WZ]at b;cases b;rw[aD _ _ (cm (by decide)),dr,dr];exact⟨⟨none,⟨none,0⟩,0,0,0,0,rfl,rfl⟩,λj q=>by cases q⟩}};{intro i k m g b;subst c;simp[gZ];exact h.more.l i k m g b};{exact h.fit};{refine⟨?_,h.more.len.2.1,h.more.len.2.2⟩;have:=h.len.1;grind};{exact h.rng};{subst c;exact⟨by grind [sg],rfl,rfl⟩}
theorem zcI(M:Mc)(A C D:Int)(s t:Vx)(w:World)(h:du w l r M S)(hN:S<=1073741824) :
  aU 10 #[bh l,agg #[J 1,J A,J C,J D,Y s,Y t]] w λe w'=>j7 l r M S true e w':=by (have⟨W,HW⟩:=aX (w.alloc (aJ #[J 1,J A,J C,J D,Y s,Y t] 28));have⟨hM,hB,ax,_⟩:=h.boxed 1 A C D s t W HW.o;have⟨o0,_⟩:=dO hB;have⟨iX,ar,R,T,ac⟩:=VT zcA;have⟨iM,aq,L,N,P⟩:=VT zcx;have v:Z (du W l r M S):=hM;have ap:Z ((nE 46 (M.V.map (·.1))).n<=4294967296):=by show(M.V.map _).length<=_;rw[Wf];have:=h.len.1;omega);(have am:Z ((nE 47 (M.V.map (·.2.1))).n<=4294967296):=by show(M.V.map _).length<=_;rw[Wf];have:=h.len.1;omega);have F:Z ((nE 46 (M.V.map (·.1))).n=M.V.length):=Wf _;have B:Z ((nE 47 (M.V.map (·.2.1))).n=M.V.length):=Wf _;clear h hM hB;go_enter func10,ntmps10;go_upto_region 1 with fail;rw[HW.o];go_upto_region 5 with (go_at_call 26;refine VL (zaT W) ?_;rintro e w1 ⟨rfl,hX,k1⟩);have S1:Z _:=v.o.sep.put (6,M.V.length) (itV W.heap.size [] 0 0 none) (k1.mono (by simp)) ⟨V5 _,hX⟩ (λq j=>VW (by rcases V9.1 j with e | e;exact Xa e.symm;exact absurd (qm.1 e).2 (Xg _)));go_upto_region 6 with (go_at_call 27;refine VL (Pd w1) ?_;rintro e w2 ⟨rfl,hY,k2⟩);have S2:Z _:=(S1.o.put (7,M.V.length) (itR w1.heap.size ⟨none,0⟩ [] 0 0 none) (k2.mono (by simp)) ⟨V5 _,_,_,_,hY⟩ (λq j=>VW (by rcases V9.1 j with e | e;exact Xa e.symm;exact absurd (qm.1 (show q∈jJ 0 0 from e)).2 (Xg _))));have b:Z _:=(v.o.YM k1).YM k2;clear hX hY k1 k2;have c0:aP w2 l 0 (Q M.hx.ao M.V.length M.hx.cap):=bR b.o.Y0 rfl;have H:=b.o.ownX;have z:Z (l∉M.hx.Y0.toList):=λj=>b.o.sep.far (0,0) (1,0) (cm (by decide)) l (b.o.w0 ▸ VR.2 rfl) (b.o.x ▸ j);have⟨a,u⟩:∃a,Z (a=gZ (gZ r (6,M.V.length) (itV W.heap.size [] 0 0 none)) (7,M.V.length) (itR w1.heap.size ⟨none,0⟩ [] 0 0 none)):=⟨_,rfl⟩;rw[<-u.o]at S2;have ag:Z (a (0,0)=vO l 42 M.cells):=cI (by rw[u.o,aD _ _ (cm (by decide)),aD _ _ (cm (by decide))];exact v.o.w0);have ai:Z (a (1,0)=dw M.hx (nE 46 (M.V.map (·.1)))):=cI (by rw[u.o,aD _ _ (cm (by decide)),aD _ _ (cm (by decide))];exact v.o.x);have al:Z (a (2,0)=dw M.hm (nE 47 (M.V.map (·.2.1)))):=cI (by rw[u.o,aD _ _ (cm (by decide)),aD _ _ (cm (by decide))];exact v.o.m);have⟨p,E⟩:=aX (W.heap.size);have⟨av,G⟩:=aX (w1.heap.size);rw[E.o,G.o]at u;rw[E.o,G.o];go_upto_region 7 with (at_builtin;refine dX w2 rfl (.tmp 29) (.tmp 31) 31 rfl iX (pointer none) 8 M.hx (nE 46 (M.V.map (·.1))) [ptV p] underlying31 ar R T ac rfl VP (by rw[F.o];simp[Act.eval]) H ap.o (by omega) (by simp[Act.eval]) rfl (by simp[ptV,Value.oneCell']) ?_;intro c w5 k dm;rw[DO]at k;have p5:=dm.YZ.get b.o.Y0 z.o;have f5:=au p5;have c5:aP w5 l 0 (Q M.hx.ao M.V.length M.hx.cap):=(bR p5 rfl);have z5:=ae p5);(rw[F.o];have y:Z _:=(S2.o.grown ag.o (cm (by decide)) ai.o dm k 0 (Q c.ao (M.V.length+1) c.cap));have⟨w6,af⟩:=aX (w5.setCell (aE l) (Q c.ao (M.V.length+1) c.cap));rw[af.o]at y ⊢;have d:Z _:=dr (gZ a (1,0) (dw c (nE 46 (M.V.map (·.1)++[p])))) (0,0) (vO l 42 (M.cells.set 0 (Q c.ao (M.V.length+1) c.cap)));have⟨J6,g⟩:=aX (gZ (gZ a (1,0) (dw c (nE 46 (M.V.map (·.1)++[p])))) (0,0) (vO l 42 (M.cells.set 0 (Q c.ao (M.V.length+1) c.cap))));have i:Z (J6 (2,0)=dw M.hm (nE 47 (M.V.map (·.2.1)))):=cI (by rw[<-g.o,aD _ _ (cm (by decide)),aD _ _ (cm (by decide))];exact al.o);rw[g.o]at y d;have b6:w6.heap[l]?=some (aJ (M.cells.set 0 (Q c.ao (M.V.length+1) c.cap)).toArray 42):=by have:=y.o.all (0,0);rw[d.o]at this;exact this);(have ad:Z _:=b6;have I:aK w6 M.hm (nE 47 (M.V.map (·.2.1))):=by have:=y.o.all (2,0);rw[i.o]at this;exact this);have f:Z (l∉M.hm.Y0.toList):=λj=>y.o.far (0,0) (2,0) (cm (by decide)) l (d.o ▸ VR.2 rfl) (i.o ▸ j);clear p5 f5 c5 z5 k dm c0 H;have c1:aP w6 l 1 (Q M.hm.ao M.V.length M.hm.cap):=bR b6 rfl;clear b6;go_wp2_with (at_builtin;refine dX w6 rfl (.tmp 39) (.tmp 41) 32 rfl iM (pointer none) 8 M.hm (nE 47 (M.V.map (·.2.1))) [ptV av] underlying32 aq L N P rfl VP (by rw[B.o];simp[Act.eval]) I am.o (by omega) (by rfl) rfl (by simp[ptV,Value.oneCell']) ?_;intro h7 w7 K vL;rw[DO]at K;have p7:=vL.YZ.get ad.o f.o;have f7:=au p7;have c7:aP w7 l 1 (Q M.hm.ao M.V.length M.hm.cap):=(bR p7 rfl);have z7:=ae p7;rw[B.o]);go_ret;have S7:=y.o.grown d.o (cm (by decide)) i.o vL K 1 (Q h7.ao (M.V.length+1) h7.cap);rw[<-g.o]at S7;exact⟨rfl,v.o.addV u.o S7⟩
end Go.Proofs.YtpdholcaobgofaaGreat
