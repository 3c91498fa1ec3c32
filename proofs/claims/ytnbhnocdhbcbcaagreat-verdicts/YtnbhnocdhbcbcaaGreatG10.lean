import Derived.BigQuiet
import Derived.Maps.AppendAt
import Derived.Test.YtnbhnocdhbcbcaaGreatG09
namespace Go.Proofs.YtnbhnocdhbcbcaaGreat
open Go.RowKit Tryz
open Value IntKind Ending
set_option maxHeartbeats 0
variable{T o:World}{S:Nat}{L:Hd}{n D:List ByteArray}{y:Nat->Hd}(k i w:Nat)(b:List St)(x:Nat->Hd)(a:List ByteArray)(v:List (List ByteArray))(d:List ByteArray)(H:World)(l:List ByteArray)(f:Nat)
def EA(f:oL):Array Value:=#[int i64 f.1,string f.2.file,int i64 f.2.line,int i64 f.2.col]
theorem jD{f:oL}(h:T.heap[S]?=some (.cells (EA f) 165)) :
  T.cell? ⟨S,0,none⟩=some (int i64 f.1)/\T.cell? ⟨S,1,none⟩=some (string f.2.file)/\T.cell? ⟨S,2,none⟩=some (int i64 f.2.line)/\T.cell? ⟨S,3,none⟩=some (int i64 f.2.col):=by
 refine⟨?_,?_,?_,?_⟩ <;> (rw[aj h];rfl)
theorem BU(s:St)(d:b.length<=10000)(e:s.Wp.length<=10000):iY ⟨(bW b f s.fin 1 (s.Wp.drop 1) (aN b f)).2,[],[],0,false⟩ 20000:=by
 have a:=(yT b f s.fin (s.Wp.drop 1) 1 (aN b f)).2;have c:(aN b f).length<=b.length:=oU b f b.length;simp only[List.length_drop]at a;exact⟨by simp only;omega,by simp,by simp,by simp,by simp⟩
set_option maxRecDepth 100000
theorem ss(hr:f9 H k i b x)(ha:w<b.length)(ok:lu b)(b6:yN b[w]) :
  Calls prog 139 #[pointer (some ⟨k,i,none⟩),int i64 w] H fun e w'=>∃hd:Hd,
   e=returned (tuple #[slice hd.ao (kM b w b[w]).1.length hd.cap,ij (kM b w b[w]).2])/\aC w' hd (gU (kM b w b[w]).1)/\(∀a,hd.blk=some a->H.heap.size<=a)/\aa [] H w':=by
 have cp:=hr.lt;have b0:=ok.len;have cf:=ok.prfs w ha;have cx:(aN b w).length<=b.length:=oU b w b.length;obtain⟨AO,bj⟩:∃AO,Hid ((x (11+2*w)).ao=AO):=⟨_,rfl⟩
 obtain⟨W,hW⟩:∃W,W=H.alloc (.cells #[int i64 0,string ⟨#[]⟩,int i64 0,int i64 0] 165):=⟨_,rfl⟩
 have K:=fN hW.symm;have BF:W.heap[H.heap.size]?=some (.cells bD 165):=by rw[hW];exact R2 _ _
 have HW:Hid _:=hW.symm;clear hW;go_enter func139,ntmps139;go_upto_region 1 with fail
 rw[HW.out];go_wp2_with fail;refine(bG k i w b x _ (hr.Wj K) ha).mono ?_;rintro e u ⟨rfl,U⟩;unfold fL;rw[bj.out];obtain⟨TB,ap⟩:∃TB:Array Value,TB=#[int i64 b[w].kind,string b[w].label,slice (x (10+2*w)).ao b[w].We.length (x (10+2*w)).cap,slice AO b[w].Wp.length (x (11+2*w)).cap,string b[w].fin.file,int i64 b[w].fin.line,int i64 b[w].fin.col,int i64 b[w].til]:=⟨_,rfl⟩
 obtain⟨W2,F⟩:∃W2,W2=u.alloc (.cells #[int i64 b[w].kind,string b[w].label,slice (x (10+2*w)).ao b[w].We.length (x (10+2*w)).cap,slice AO b[w].Wp.length (x (11+2*w)).cap,string b[w].fin.file,int i64 b[w].fin.line,int i64 b[w].fin.col,int i64 b[w].til] 158):=⟨_,rfl⟩
 have br:Hid _:=F.symm;have K2:aa [] H W2:=by rw[F];exact(K.trans U).alloc _
 have BT:W2.heap[u.heap.size]?=some (.cells TB 158):=by rw[F,ap];exact R2 _ _
 have ba:W2.heap[H.heap.size]?=some (.cells bD 165):=by rw[F];exact((aa.refl [] _).alloc _).get (U.get BF (by simp)) (by simp)
 have cy:H.heap.size<u.heap.size:=by have:=ae (U.get BF (by simp));omega
 have cA:=ae BT;have z:Hid _:=ap;clear F ap;go_upto_region 2 with fail
 rw[br.out];clear HW br U BF K;have az:=K2.size;have b1:=hr.Wj K2;go_wp2_with fail;refine(pV k i w b x _ b1 ha ok).mono ?_;rintro e J ⟨s,rfl,bz,bx,G⟩
 have CM:dY (J.alloc (.cells #[slice s.ao (aN b w).length s.cap,slice none 0 0,slice none 0 0,int i64 0,bool false] 279)) J.heap.size ⟨aN b w,[],[],0,false⟩ (yA s):=NV (cs:=lX ⟨aN b w,[],[],0,false⟩ (yA s)) (rows:=xC ⟨aN b w,[],[],0,false⟩) bz (by
  intro j
  match j with
  | 0=>exact Sb _ _ _ _
  | 1=>exact Sb _ _ _ _
  | m+2=>exact Sb _ _ _ _)
 have K4:aa [] H (J.alloc (.cells #[slice s.ao (aN b w).length s.cap,slice none 0 0,slice none 0 0,int i64 0,bool false] 279)):=(K2.trans G).alloc _;have ag:(J.alloc (.cells #[slice s.ao (aN b w).length s.cap,slice none 0 0,slice none 0 0,int i64 0,bool false] 279)).heap[u.heap.size]?=some (.cells TB 158):=((aa.refl [] _).alloc _).get (G.get BT (by simp)) (by simp);have af:(J.alloc (.cells #[slice s.ao (aN b w).length s.cap,slice none 0 0,slice none 0 0,int i64 0,bool false] 279)).heap[H.heap.size]?=some (.cells bD 165):=((aa.refl [] _).alloc _).get (G.get ba (by simp)) (by simp);have cB:W2.heap.size<=J.heap.size:=G.size;have o:∀a,gO (yA s) a->W2.heap.size<=a:=fun a c=>bx a (OD c);obtain⟨W4,ar⟩:∃W4,W4=J.alloc (.cells #[slice s.ao (aN b w).length s.cap,slice none 0 0,slice none 0 0,int i64 0,bool false] 279):=⟨_,rfl⟩
 rw[<-ar]at CM K4 ag af;have bs:Hid _:=ar.symm;clear ar bz bx G BT ba;go_upto_region 3 with fail
 rw[bs.out];clear bs;have b5:=BU b w b[w] b0 cf;have bw:=(yT b w b[w].fin (b[w].Wp.drop 1) 1 (aN b w)).1;have R:=yF J.heap.size ⟨aN b w,[],[],0,false⟩ (yA s) k i w b x H W4 CM hr K4 ha ok (by simp only;omega) (by omega) (fun a c=>Sc az (o a c));have bk:Hid (yX b w b[w]=Bt (bW b w b[w].fin 1 (b[w].Wp.drop 1) (aN b w)).1.2 (b[w].Wp.drop (bW b w b[w].fin 1 (b[w].Wp.drop 1) (aN b w)).1.1) ⟨(bW b w b[w].fin 1 (b[w].Wp.drop 1) (aN b w)).2,[],[],0,false⟩):=rfl;simp only at R;have co:=bi.lt CM;simp only[List.length_drop]at bw;generalize bW b w b[w].fin 1 (b[w].Wp.drop 1) (aN b w)=BL at *;obtain⟨⟨nx,bf,bp⟩,ns⟩:=BL;simp only at R bk b5 bw;go_wp2_with fail;refine R.mono ?_;rintro e f ⟨rfl,H5,D5,Y⟩;unfold ij
 have K5:=K4.ofP Y.1 (fun a c=>by
  rcases c with e | e
  ·omega
  ·exact Sc az (o a e))
 have n1:¬gO H5 H.heap.size:=Y.fresh _ (by omega) (fun hm=>by have:=o _ hm;omega);have n2:¬gO H5 u.heap.size:=Y.fresh _ (by omega) (fun hm=>by have:=o _ hm;omega);have nb:∀a,gO H5 a->H.heap.size<=a:=fun a c=>by
  rcases Y.2 a c with e | e
  ·exact Sc az (o a e)
  ·omega
 have be:=Y.1.get ag (by rintro (e | e);omega;have:=o _ e;omega);have bc:=Y.1.get af (by rintro (e | e);omega;have:=o _ e;omega);have n3:¬gO H5 f.heap.size:=fun hm=>by have:=bi.inlt D5 hm;omega
 have cz:=Y.1.size;obtain⟨W6,S⟩:∃W6,W6=f.alloc (.cells #[int i64 bf,string bp.file,int i64 bp.line,int i64 bp.col] 165):=⟨_,rfl⟩
 have k6:=fN S.symm;have a7:W6.heap[f.heap.size]?=some (.cells (EA (bf,bp)) 165):=by rw[S];exact R2 _ _
 have C6:=dY.Wj D5 k6;have bg:=k6.get be (by simp);have bd:=k6.get bc (by simp);have K6:=K5.trans k6;have bv:Hid _:=S.symm;clear S;go_upto_region 4 with fail
 rw[bv.out];clear bv ag af be bc D5 Y R CM K4 K5 b1 k6;go_wp2
 go_loopg [10] (b[w].Wp.length-nx) (fun gk iv wr=>∃(j:Nat) (n:lj) (y:Nat->Hd) (l:oL) (N:Nat),j<=10001/\gk=b[w].Wp.length-j/\iv=int i64 j/\iY n N/\N+kG (b[w].Wp.drop j)<=1020000/\Hid (yX b w b[w]=Bt l (b[w].Wp.drop j) n)/\dY wr J.heap.size n y/\(∀a,gO y a->H.heap.size<=a)/\aa [] H wr /\
  wr.heap[H.heap.size]?=some (.cells bD 165)/\wr.heap[u.heap.size]?=some (.cells TB 158)/\wr.heap[f.heap.size]?=some (.cells (EA l) 165)/\¬gO y H.heap.size/\¬gO y u.heap.size/\¬gO y f.heap.size)
 case atStart=>exact⟨nx,_,H5,(bf,bp),20000,by omega,by omega,rfl,b5,by have:=Dq b[w].Wp nx;have:=b6.size;omega,bk,C6,nb,K6,bd,bg,a7,n1,n2,n3⟩
 case round =>
  obtain⟨j,n,y,l,N,hi,hg,rfl,ad,hN,hR,hC,ax,KW,B1,X,B9,n1,n2,n3⟩:=hrel;clear C6 nb K6 bd bg a7;have ch:=hr.Wj KW;have b2:=ae B1;have b3:=ae X;have b4:=ae B9;have A:=ch.Wv.prfs w b[w] (RQ ha);obtain⟨f0,f1,f2,f3⟩:=jD B9;have yf:=am B9;obtain⟨L,M,O,P⟩:=dm B1;have yz:=am B1;have ct:((j:Int) ≥ 0):=by omega
  obtain⟨aS,aT,a4,a5,a6⟩:=hC.cells;have cq:=bi.lt hC;by_cases I:j<b[w].Wp.length
  ·cases d:(l.1==0)
   ·have t3:wr.cell? ⟨u.heap.size,3,none⟩=some (slice AO b[w].Wp.length (x (11+2*w)).cap):=(by rw[aj X,z.out];rfl);have p:Hid (kM b w b[w]=([],l)):=(by show _=_;unfold kM;rw[hR.out,GY _ _ _ d];simp[ng,d]);have q:(l.1 != 0)=true:=(by simp[bne,d]);clear hR A;(go_upto_region 13 with fail);go_region
    all_goals go_wp2
    all_goals exact Sa (v:=tuple #[slice none 0 0,agg #[int i64 l.1,string l.2.file,int i64 l.2.line,int i64 l.2.col]]) (by simp[results,results139,go_sem,L,M,O,P]) rfl ⟨⟨none,0⟩,by rw[p.out];rfl,by rw[p.out];exact Sb _ _ _ _,by intro a c;simp[Hd.blk]at c,(kO KW (RV _) _ _ _ _).drew⟩
   ·obtain⟨gp,ep,cl,cb,d0,d1,d2,d3⟩:=A.word j I;obtain rfl:AO=some ⟨gp,0,none⟩:=bj.out.symm.trans ep;have t3:wr.cell? ⟨u.heap.size,3,none⟩=some (slice (some ⟨gp,0,none⟩) b[w].Wp.length (x (11+2*w)).cap):=(by rw[aj X,z.out];rfl);have cu:gp<wr.heap.size:=A.lt (by unfold Hd.blk;rw[ep];rfl);clear ep A;have ac:=b6.col b[w].Wp[j] (Sj I);have cj:=Fz b[w].Wp j I;have al:Hid _:=hR.out.trans (Qq l b[w].Wp n j I d);have an:=zQ b[w].Wp[j].1 b[w].Wp[j].2 ad;have TW:=Bc J.heap.size n y b[w].Wp[j].1 b[w].Wp[j].2.file b[w].Wp[j].2.line b[w].Wp[j].2.col wr hC N ad (by omega) ac;clear hR;generalize b[w].Wp[j]=wd at *;obtain⟨t,pf,pl,pc⟩:=wd;simp only at d0 d1 d2 d3 al an TW ac cj;generalize lV t ⟨pf,pl,pc⟩ n=Q at *;obtain⟨⟨qf,qp⟩,c2⟩:=Q;simp only at al an TW;unfold ij at TW;clear L M O P yz aS aT a4 a5 a6;go_wp2_with fail;refine TW.mono ?_;rintro e w7 ⟨rfl,H7,D7,Z⟩;have bT:∀a,(a=J.heap.size∨gO y a)->H.heap.size<=a:=by
     rintro a (e | e)
     ·omega
     ·exact ax a e
    have K7:=KW.ofP Z.1 bT;have q1:=Z.1.get B1 (by rintro (e | e);omega;exact n1 e);have q2:=Z.1.get X (by rintro (e | e);omega;exact n2 e);have q9:=Z.1.get B9 (by rintro (e | e);omega;exact n3 e);have m1:=Z.fresh H.heap.size b2 n1;have m2:=Z.fresh u.heap.size b3 n2;have m3:=Z.fresh f.heap.size b4 n3;have y9:=am q9;have m4:∀a,gO H7 a->H.heap.size<=a:=fun a c=>by
     rcases Z.2 a c with e | e
     ·exact ax a e
     ·omega
    have kk:=fun a0 a1 a2 a3=>jE (w:=w7) (r:=f.heap.size) a0 a1 a2 a3;have ai:Hid _:=kk;have ca:Hid (∀a0 a1 a2 a3,((((w7.setCell ⟨f.heap.size,0,none⟩ a0).setCell ⟨f.heap.size,1,none⟩ a1).setCell ⟨f.heap.size,2,none⟩ a2).setCell ⟨f.heap.size,3,none⟩ a3).heap[f.heap.size]?=some (.cells #[a0,a1,a2,a3] 165)):=by
     intro a0 a1 a2 a3;rw[ah (ah (ah (ah q9 _ _) _ _) _ _)];rfl
    clear kk bT d0 d1 d2 d3 t3 f0 f1 f2 f3 yf;obtain⟨g0,g1,g2,g3⟩:=jD q9;go_wp2;go_roundg (b[w].Wp.length-(j+1))
    case measure=>omega
    case rel=>exact⟨j+1,c2,H7,(qf,qp),N+t.size,by omega,rfl,by go_num,an,by omega,al.out,bi.kept D7 (ai.out _ _ _ _) (by simp;omega) (by intro a c;simp;rintro rfl;exact m3 c),m4,kO K7 (by omega) _ _ _ _,(ai.out _ _ _ _).get q1 (by simp;omega),(ai.out _ _ _ _).get q2 (by simp;omega),ca.out _ _ _ _,m1,m2,m3⟩
  ·have t3:wr.cell? ⟨u.heap.size,3,none⟩=some (slice AO b[w].Wp.length (x (11+2*w)).cap):=(by rw[aj X,z.out];rfl);cases d:(l.1==0)
   ·have p:Hid (kM b w b[w]=([],l)):=(by show _=_;unfold kM;rw[hR.out,GY _ _ _ d];simp[ng,d]);have q:(l.1 != 0)=true:=(by simp[bne,d]);clear hR A;(go_upto_region 13 with fail);go_region
    all_goals go_wp2
    all_goals exact Sa (v:=tuple #[slice none 0 0,agg #[int i64 l.1,string l.2.file,int i64 l.2.line,int i64 l.2.col]]) (by simp[results,results139,go_sem,L,M,O,P]) rfl ⟨⟨none,0⟩,by rw[p.out];rfl,by rw[p.out];exact Sb _ _ _ _,by intro a c;simp[Hd.blk]at c,(kO KW (RV _) _ _ _ _).drew⟩
   ·have t4:wr.cell? ⟨u.heap.size,4,none⟩=some (string b[w].fin.file):=(by rw[aj X,z.out];rfl);have t5:wr.cell? ⟨u.heap.size,5,none⟩=some (int i64 b[w].fin.line):=(by rw[aj X,z.out];rfl);have t6:wr.cell? ⟨u.heap.size,6,none⟩=some (int i64 b[w].fin.col):=(by rw[aj X,z.out];rfl);have HE:Hid (kM b w b[w]=ng b[w].fin (cM,n)):=(by show _=_;unfold kM;rw[hR.out,OE _ _ _ _ I d]);have q:(l.1 != 0)=false:=(by simp[bne,d]);clear hR A;by_cases T:n.Wl=0
    ·have cc:¬((n.Wl:Int) > 0):=(by omega);by_cases V:n.steps.length=0
     ·have ck:((n.steps.length:Int)==0)=true:=(by simp[V]);have p:Hid (kM b w b[w]=([],(1,b[w].fin))):=(by show _=_;rw[HE.out];simp[ng,cM,T,V]);obtain⟨E,g⟩:∃E,E=(((wr.setCell ⟨f.heap.size,0,none⟩ (int i64 1)).setCell ⟨f.heap.size,1,none⟩ (string b[w].fin.file)).setCell ⟨f.heap.size,2,none⟩ (int i64 b[w].fin.line)).setCell ⟨f.heap.size,3,none⟩ (int i64 b[w].fin.col):=⟨_,rfl⟩
      have k8:aa [f.heap.size] wr E:=(by rw[g];exact jE _ _ _ _);have K8:aa [] H E:=(by rw[g];exact kO KW (by omega) _ _ _ _);have C:E.heap[f.heap.size]?=some (.cells (EA (1,b[w].fin)) 165):=by
       rw[g,ah (ah (ah (ah B9 _ _) _ _) _ _)];rfl
      have B:=k8.get B1 (by simp;omega);have C8:=bi.kept hC k8 (by simp;omega) (by intro a c;simp;rintro rfl;exact n3 c);have D:Hid _:=g.symm;clear g k8;(go_upto_region 12 with fail);rw[D.out];clear D f0 f1 f2 f3 yf L M O P yz aS aT a4 a5 a6 t3 t4 t5 t6 d q;obtain⟨f0,f1,f2,f3⟩:=jD C;have yf:=am C;obtain⟨L,M,O,P⟩:=dm B;have yz:=am B;(go_upto_region 13 with fail);go_region
      all_goals go_wp2
      all_goals exact Sa (v:=tuple #[slice none 0 0,agg #[int i64 1,string b[w].fin.file,int i64 b[w].fin.line,int i64 b[w].fin.col]]) (by simp[results,results139,go_sem,L,M,O,P]) rfl ⟨⟨none,0⟩,by rw[p.out];rfl,by rw[p.out];exact Sb _ _ _ _,by intro a c;simp[Hd.blk]at c,(kO K8 (RV _) _ _ _ _).drew⟩
     ·have ck:((n.steps.length:Int)==0)=false:=Sp.2 (by omega);have p:Hid (kM b w b[w]=(n.steps,cM)):=(by show _=_;rw[HE.out];simp[ng,cM,T,V]);have bo:Hid (aC wr (y 2) (gU n.steps)):=bi.own hC 2;have bl:Hid (∀a,(y 2).blk=some a->H.heap.size<=a/\a≠H.heap.size):=fun a c=>⟨ax a ⟨2,c⟩,fun e=>n1 ⟨2,e ▸ c⟩⟩
      clear V T;go_wp2;exact Sa (v:=tuple #[slice (y 2).ao n.steps.length (y 2).cap,agg #[int i64 0,string ⟨#[]⟩,int i64 0,int i64 0]]) (by simp[results,results139,go_sem,L,M,O,P]) rfl
       ⟨y 2,by rw[p.out];rfl,by rw[p.out];exact bo.out.Wo (fun a c=>(jE (r:=H.heap.size) _ _ _ _).block a (bo.out.lt c) (by simp;exact(bl.out a c).2)),fun a c=>(bl.out a c).1,kO KW (RV _) _ _ _ _⟩
    ·have cc:(n.Wl:Int) > 0:=(by omega);have p:Hid (kM b w b[w]=([],(4,b[w].fin))):=(by show _=_;rw[HE.out];simp[ng,cM,T]);obtain⟨E,g⟩:∃E,E=(((wr.setCell ⟨f.heap.size,0,none⟩ (int i64 4)).setCell ⟨f.heap.size,1,none⟩ (string b[w].fin.file)).setCell ⟨f.heap.size,2,none⟩ (int i64 b[w].fin.line)).setCell ⟨f.heap.size,3,none⟩ (int i64 b[w].fin.col):=⟨_,rfl⟩
     have k8:aa [f.heap.size] wr E:=(by rw[g];exact jE _ _ _ _);have K8:aa [] H E:=(by rw[g];exact kO KW (by omega) _ _ _ _);have C:E.heap[f.heap.size]?=some (.cells (EA (4,b[w].fin)) 165):=by
      rw[g,ah (ah (ah (ah B9 _ _) _ _) _ _)];rfl
     have B:=k8.get B1 (by simp;omega);have C8:=bi.kept hC k8 (by simp;omega) (by intro a c;simp;rintro rfl;exact n3 c);have D:Hid _:=g.symm;clear g k8;(go_upto_region 10 with fail);rw[D.out];clear D f0 f1 f2 f3 yf L M O P yz aS aT a4 a5 a6 t3 t4 t5 t6 d q;obtain⟨f0,f1,f2,f3⟩:=jD C;have yf:=am C;obtain⟨L,M,O,P⟩:=dm B;have yz:=am B;(go_upto_region 13 with fail);go_region
     all_goals go_wp2
     all_goals exact Sa (v:=tuple #[slice none 0 0,agg #[int i64 4,string b[w].fin.file,int i64 b[w].fin.line,int i64 b[w].fin.col]]) (by simp[results,results139,go_sem,L,M,O,P]) rfl ⟨⟨none,0⟩,by rw[p.out];rfl,by rw[p.out];exact Sb _ _ _ _,by intro a c;simp[Hd.blk]at c,(kO K8 (RV _) _ _ _ _).drew⟩
def uA(s:St):Bool :=
 match s.Wp with
 | []=>false
 | (t,_) :: _=>t.toList == [40]
def dK(l:List St)(a:Nat)(s:St):List kK×oL:=if uA s=true then kM l a s else dP l a s.fin s.Wp []
theorem JF(hr:f9 H k i b x)(E:w<b.length)(P:lu b)(af:yN b[w]) :
  Calls prog 101 #[pointer (some ⟨k,i,none⟩),int i64 w] H fun e w'=>∃a:Hd,
   e=returned (tuple #[slice a.ao (dK b w b[w]).1.length a.cap,ij (dK b w b[w]).2])/\aC w' a (gU (dK b w b[w]).1)/\(∀f,a.blk=some f->H.heap.size<=f)/\aa [] H w':=by
 have ap:=hr.lt;have az:=P.prfs w E;obtain⟨M,F⟩:∃M,Hid ((x (11+2*w)).ao=M):=⟨_,rfl⟩
 obtain⟨W,O⟩:∃W,W=H.alloc (.cells #[int i64 0,string ⟨#[]⟩,int i64 0,int i64 0] 165):=⟨_,rfl⟩
 have K:=fN O.symm;have S:W.heap[H.heap.size]?=some (.cells bD 165):=by rw[O];exact R2 _ _
 have HW:Hid _:=O.symm;clear O;go_enter func101,ntmps101;go_upto_region 1 with fail
 rw[HW.out];go_wp2_with fail;refine(bG k i w b x _ (hr.Wj K) E).mono ?_;rintro e w1 ⟨rfl,m⟩;unfold fL;rw[F.out];obtain⟨y,l⟩:∃y,y=w1.alloc (.cells #[int i64 b[w].kind,string b[w].label,slice (x (10+2*w)).ao b[w].We.length (x (10+2*w)).cap,slice M b[w].Wp.length (x (11+2*w)).cap,string b[w].fin.file,int i64 b[w].fin.line,int i64 b[w].fin.col,int i64 b[w].til] 158):=⟨_,rfl⟩
 have G:Hid _:=l.symm;have U:aa [] H y:=by rw[l];exact(K.trans m).alloc _
 have BT:=fY l.symm;have T:y.heap[H.heap.size]?=some (.cells bD 165):=by rw[l];exact((aa.refl [] _).alloc _).get (m.get S (by simp)) (by simp)
 have aS:H.heap.size<w1.heap.size:=by have:=ae (m.get S (by simp));omega
 have aT:=ae BT;clear l;go_upto_region 2 with fail
 rw[G.out];clear HW G m S K;obtain⟨-,-,-,t3,-⟩:=vI BT;have n:=hr.Wj U;have j:=n.Wv.prfs w b[w] (RQ E)
 have d:Hid (∀(c:World) (fl:oL) (a:Hd) (Q:List kK),aa [] y c->(∀f,a.blk=some f->y.heap.size<=f)->aC c a (gU Q)->dK b w b[w]=(Q,fl) ->
   c.frozen? ⟨H.heap.size,0,none⟩=false/\c.frozen? ⟨H.heap.size,1,none⟩=false/\c.frozen? ⟨H.heap.size,2,none⟩=false/\c.frozen? ⟨H.heap.size,3,none⟩=false /\
   c.cell? ⟨H.heap.size,0,none⟩=some (int i64 0)/\c.cell? ⟨H.heap.size,1,none⟩=some (string ⟨#[]⟩)/\c.cell? ⟨H.heap.size,2,none⟩=some (int i64 0)/\c.cell? ⟨H.heap.size,3,none⟩=some (int i64 0) /\
   ∀V X Y Z,Hid (aa [] H ((((c.setCell ⟨H.heap.size,0,none⟩ V).setCell ⟨H.heap.size,1,none⟩ X).setCell ⟨H.heap.size,2,none⟩ Y).setCell ⟨H.heap.size,3,none⟩ Z)/\aC ((((c.setCell ⟨H.heap.size,0,none⟩ V).setCell ⟨H.heap.size,1,none⟩ X).setCell ⟨H.heap.size,2,none⟩ Y).setCell ⟨H.heap.size,3,none⟩ Z) a (gU Q))):=by
  intro c fl a Q s ad J he;have B9:=s.get T (by simp);obtain⟨A,B,C,D⟩:=dm B9;have R:=am B9;refine⟨R 0,R 1,R 2,R 3,A,B,C,D,fun V X Y Z=>⟨kO (U.trans s) (RV _) _ _ _ _,J.Wo (fun f q=>(jE (r:=H.heap.size) _ _ _ _).block f (J.lt q) (by simp;rintro rfl;have:=ad _ q;omega))⟩⟩
 have z:=U.size;rcases hpr:b[w].Wp with _ | ⟨⟨t,p⟩,r⟩
 ·have I:b[w].Wp.length=0:=by rw[hpr];rfl
  have g:Hid (dK b w b[w]=dP b w b[w].fin b[w].Wp []):=by show _=_;simp[dK,uA,hpr]
  rw[I]at t3;have an:¬((0:Nat):Int) > 0:=by omega
  clear hpr j;go_wp2_with (go_at_call 140;refine(qk k i w b x _ n E P).mono ?_;rintro e c ⟨a,rfl,L,u,s⟩;obtain⟨y0,y1,y2,y3,A,B,C,D,o⟩:=d.out c _ a _ s u L g.out;unfold ij);exact Sa (v:=tuple #[slice a.ao (dP b w b[w].fin b[w].Wp []).1.length a.cap,ij (dP b w b[w].fin b[w].Wp []).2]) (by simp[results,results101,go_sem,A,B,C,D,ij]) rfl
   ⟨a,by rw[g.out],by rw[g.out];exact(o _ _ _ _).out.2,fun f q=>Sc z (u f q),(o _ _ _ _).out.1⟩
 ·have I:b[w].Wp.length=r.length+1:=by rw[hpr];rfl
  obtain⟨gp,N,ag,ac,d0,-,-,-⟩:=j.word 0 (by omega);obtain rfl:M=some ⟨gp,0,none⟩:=F.out.symm.trans N;have ar:gp<y.heap.size:=j.lt (by unfold Hd.blk;rw[N];rfl);have ax:((b[w].Wp.length:Int) > 0):=by omega
  have ai:(0:Int)<b[w].Wp.length:=by omega
  have al:0<b[w].Wp.length:=by omega
  simp only[hpr,List.getElem_cons_zero]at d0;cases hc:(t.toList == [40])
  ·have g:Hid (dK b w b[w]=dP b w b[w].fin b[w].Wp []):=(by show _=_;simp[dK,uA,hpr,hc]);clear hpr j N;go_wp2_with (go_at_call 140;refine(qk k i w b x _ n E P).mono ?_;rintro e c ⟨a,rfl,L,u,s⟩;obtain⟨y0,y1,y2,y3,A,B,C,D,o⟩:=d.out c _ a _ s u L g.out;unfold ij);exact Sa (v:=tuple #[slice a.ao (dP b w b[w].fin b[w].Wp []).1.length a.cap,ij (dP b w b[w].fin b[w].Wp []).2]) (by simp[results,results101,go_sem,A,B,C,D,ij]) rfl
    ⟨a,by rw[g.out],by rw[g.out];exact(o _ _ _ _).out.2,fun f q=>Sc z (u f q),(o _ _ _ _).out.1⟩
  ·have g:Hid (dK b w b[w]=kM b w b[w]):=(by show _=_;simp[dK,uA,hpr,hc]);clear hpr j N;go_wp2_with (go_at_call 139;refine(ss k i w b x _ n E P af).mono ?_;rintro e c ⟨a,rfl,L,u,s⟩;obtain⟨y0,y1,y2,y3,A,B,C,D,o⟩:=d.out c _ a _ s u L g.out;unfold ij);exact Sa (v:=tuple #[slice a.ao (kM b w b[w]).1.length a.cap,ij (kM b w b[w]).2]) (by simp[results,results101,go_sem,A,B,C,D,ij]) rfl
    ⟨a,by rw[g.out],by rw[g.out];exact(o _ _ _ _).out.2,fun f q=>Sc z (u f q),(o _ _ _ _).out.1⟩
theorem Mg:(prog.info? 61).map (fun i=>(i.zero,i.size,i.bytes))=some (some (slice none 0 0),1,24):=by kernel_rfl
structure Ex where
 hd:Hd
 xs:List ByteArray
def wN(e:Ex):Value:=slice e.hd.ao e.xs.length e.hd.cap
def Cg(l:List Ex):List Value:=l.map wN
def gQ(l:List Ex):eB:=⟨61,1,l.length,Cg l⟩
theorem uK(l:List Ex)(e:Ex):(⟨(gQ l).e,(gQ l).size,(gQ l).n+1,(gQ l).xs++[wN e]⟩:eB)=gQ (l++[e]):=by simp[gQ,Cg]
theorem tn(l:List Ex)(k:Nat)(h:k<l.length):(Cg l)[k]?=some (wN l[k]):=by simp[Cg,h]
theorem kI.keptP{P:Nat->Prop}(v:kI T L n)(k:fy P T o)(f:∀x,L.blk=some x->¬P x):kI o L n:=by
 rcases v with v | ⟨g,b,a,t,c,d,e⟩
 ·exact R4 v
 ·exact RZ ⟨g,b,a,t,c,k.get d (f g (by unfold Hd.blk;rw[c];rfl)),e⟩
structure Bw(w:World)(b:Nat)(H:Nat->Hd)(e:Ex):Prop where
 view:kI w e.hd e.xs
 adr:∃ad,e.hd.ao=some ad
 far:∀x,e.hd.blk=some x->x<w.heap.size/\x≠b/\¬gO H x
theorem Bw.turned{d:Nat->Hd}{e:Ex}(h:Bw T S y e)(t:aB S T y o d):Bw o S d e:=by
 refine⟨h.view.keptP t.1 (fun x c=>?_),h.adr,fun x c=>?_⟩
 ·obtain⟨_,a,b⟩:=h.far x c;rintro (e | e)
  ·exact a e
  ·exact b e
 ·obtain⟨f,a,b⟩:=h.far x c;exact⟨R6 f t.1.size,a,t.fresh x f b⟩
theorem Bw.Wj{e:Ex}(h:Bw T S y e)(k:aa [] T o):Bw o S y e :=
 ⟨h.view.Wj k,h.adr,fun x a=>⟨R6 (h.far x a).1 k.size,(h.far x a).2⟩⟩
def qs(vs:List ByteArray)(be:List Ex):Nat->eB
 | 0=>aG vs
 | 1=>gQ be
 | _+2=>aG []
def pj(vs:List ByteArray)(be:List Ex)(H:Nat->Hd):List Value:=[slice (H 0).ao vs.length (H 0).cap,slice (H 1).ao be.length (H 1).cap]
structure mF(w:World)(b:Nat)(vs:List ByteArray)(be:List Ex)(H:Nat->Hd):Prop where
 bag:bi w b 343 (pj vs be H) (qs vs be) H
 len:be.length=vs.length
 exs:∀e∈be,Bw w b H e
theorem mF.Wj{a:List Ex}(h:mF T S n a y)(k:aa [] T o):mF o S n a y:=⟨h.bag.Wj k,h.len,fun e b=>(h.exs e b).Wj k⟩
theorem mF.cells{a:List Ex}(h:mF T S n a y) :
  T.cell? ⟨S,0,none⟩=some (slice (y 0).ao n.length (y 0).cap)/\T.cell? ⟨S,1,none⟩=some (slice (y 1).ao a.length (y 1).cap):=⟨h.bag.cell 0,h.bag.cell 1⟩
def yq(a b:List ByteArray):Bool:=a.map (·.toList)==b.map (·.toList)
theorem N3(h:n.length≠D.length):yq n D=false:=by
 unfold yq;rw[Sp];intro e;have:=congrArg List.length e;simp at this;exact h this
theorem PM(a:f<n.length)(b:f<D.length)(h:(n[f].toList==D[f].toList)=false):yq n D=false:=by
 unfold yq;rw[Sp]at h ⊢;intro e;have:=congrArg (fun l=>l[f]?) e;simp[a,b]at this;exact h this
theorem GC(c:n.length=D.length)(h:∀k (a:k<n.length) (b:k<D.length),(n[k].toList==D[k].toList)=true):yq n D=true:=by
 unfold yq;rw[T0];apply Vm
 ·simpa using c
 ·intro k a b;simp at a b ⊢;exact T0.1 (h k a b)
set_option maxRecDepth 512
theorem yZ(o p:Hd)(a b:List ByteArray)(w:World)(Z:kI w o a)(v2:kI w p b)(V:a.length<=1073741824)(W:b.length<=1073741824) :
  Calls prog 212 #[slice o.ao a.length o.cap,slice p.ao b.length p.cap] w fun e w'=>e=returned (bool (yq a b))/\aa [] w w':=by
 obtain⟨K,B⟩:=o;obtain⟨L,C⟩:=p;by_cases f:a.length=b.length
 ·have Y:((a.length:Int) != b.length)=false:=by simp[f]
  by_cases I:a.length=0
  ·have d:Hid (yq a b=true):=GC f (fun k o p=>by omega);have S:¬(0:Int)<a.length:=(by omega);go_enter func212,ntmps212;go_wp2;refine Uh 1 ?_;rw[UD];go_wp2;go_ret;exact⟨aE d.out.symm,aa.refl _ _⟩
  ·rcases Z with rfl | ⟨g,s,M,t,E,F,y,N,O⟩
   ·simp at I
   rcases v2 with rfl | ⟨R,l,D,t',G,H,z,P,Q⟩
   ·simp at f;simp[f]at I
   simp only at E G N O P Q;subst E;subst G;go_enter func212,ntmps212;go_wp2
   go_loopg [5] a.length (fun gk i wr=>∃k:Nat,k<=a.length/\gk=a.length-k/\i=int i64 k/\Hid (∀i (u:i<a.length) (v:i<b.length),i<k->(a[i].toList==b[i].toList)=true)/\aa [] w wr)
   case atStart=>exact⟨0,by omega,by omega,rfl,fun i _ _ U=>by omega,aa.refl _ _⟩
   case round =>
    obtain⟨k,hk,hg,rfl,c,q⟩:=hrel;by_cases r:k<a.length
    ·have j:k<b.length:=(by omega);have c1:wr.cell? ⟨g,s+k,none⟩=some (string a[k]):=(aj (q.get F (by simp)) (s+k)).trans (y k a[k] (RQ r));have c2:wr.cell? ⟨R,l+k,none⟩=some (string b[k]):=(aj (q.get H (by simp)) (l+k)).trans (z k b[k] (RQ j));have X:(k:Int)<a.length:=(by omega);have J:(k:Int)<b.length:=(by omega);have m:Hid _:=PM k r j;have n:Hid ((a[k].toList==b[k].toList)=true->∀i (u:i<a.length) (v:i<b.length),i<k+1->(a[i].toList==b[i].toList)=true):=by
      intro T i u v U;by_cases e:i=k
      ·subst e;exact T
      ·exact c.out i u v (by omega)
     clear c y z F H;cases x:(a[k].toList==b[k].toList)
     ·have d:Hid _:=m.out x;have A:(a[k].toList != b[k].toList)=true:=(by simp[bne,x]);clear m n f;(go_upto_region 6 with fail);go_quiet (fail);go_wp2;go_ret;exact⟨aE d.out.symm,q.drewN _⟩
     ·have d:Hid _:=n.out x;have A:(a[k].toList != b[k].toList)=false:=(by simp[bne,x]);clear m n f;(go_upto_region 6 with fail);go_quiet (fail);go_wp2;go_roundg (a.length-(k+1))
      case measure=>omega
      case rel=>exact⟨k+1,by omega,rfl,by go_num,d.out,q.drewN _⟩
    ·have d:Hid (yq a b=true):=GC f (fun i u v=>c.out i u v (by omega));clear c y z;go_wp2;go_ret;exact⟨aE d.out.symm,q⟩
 ·have d:Hid (yq a b=false):=N3 f;have Y:((a.length:Int) != b.length)=true:=by simp[bne];omega
  go_enter func212,ntmps212;go_wp2;go_ret;exact⟨aE d.out.symm,aa.refl _ _⟩
theorem Kg(r:List Ex)(H:Nat->Hd)(x:ByteArray)(d:World)(h:mF d w l r H)(F:l.length<=1073741824) :
  Calls prog 279 #[pointer (some ⟨w,0,none⟩),string x] d fun e B=>e=returned (int i64 (qe (mq l x)))/\B=d:=by
 obtain⟨s,t⟩:=h.cells;have m:=h.len;have a:aC d (H 0) (aG l):=h.bag.own 0;rw[m]at t;go_enter func279,ntmps279;go_wp2
 go_loopg [5] l.length (fun g i wr=>∃k:Nat,k<=l.length/\g=l.length-k/\i=int i64 k/\Hid (∀i,i<k->((l.getD i ⟨#[]⟩).toList==x.toList)=false)/\wr=d)
 case atStart=>exact⟨0,by omega,by omega,rfl,fun i p=>by omega,rfl⟩
 case round =>
  obtain⟨k,E,D,rfl,b,rfl⟩:=hrel;by_cases c:k<l.length
  ·rcases a.Wu with ⟨_,z,_⟩ | ⟨g,u,n,-,v,-⟩
   ·have:l.length=0:=z;omega
   ·have C:=a.cell n k (string l[k]) (t9 l k c);rw[n]at s;have f:Hid _:=vV l k c;have A:l.length<=(H 0).cap:=v;generalize l[k]=y at *;cases o:(y.toList==x.toList)
    ·have q:Hid (∀i,i<k+1->((l.getD i ⟨#[]⟩).toList==x.toList)=false):=by
      intro i p;by_cases e:i=k
      ·subst e;rw[f.out];exact o
      ·exact b.out i (by omega)
     clear f h a;go_wp2;go_roundg (l.length-(k+1))
     case measure=>omega
     case rel=>exact⟨k+1,by omega,rfl,by go_num,q,rfl⟩
    ·have j:Hid (mq l x=some k):=qM c (by rw[f.out];exact o) b.out;clear f h a;go_wp2;go_ret;exact⟨au (by rw[j.out];rfl),rfl⟩
  ·have j:Hid (mq l x=none):=pg (fun i p=>b.out i (by omega));clear h a;go_wp2;go_ret;exact⟨au (by rw[j.out];rfl),rfl⟩
theorem ue{P:Program}{y:Array Oper}{l:List Oper}{o:Oper}{a:Act}{Q:Exit->Act->World->Prop}(V:o.guard=none)(s x:Operand)(t:TypeId)(E:o.op=Op.call { callee:=Callee.builtin Builtin.append,args:=#[s,x],argTypes:=#[t,t] })(i:TypeInfo)(z:Value)(d:Nat)(h:Hd)(r:eB)(L:P.underlying t=some (.slice r.e))(M:P.info? r.e=some i)(N:i.zero=some z)(O:i.size=r.size)(R:i.bytes=d)(S:z.cells.size=r.size)(T:0<r.size)(X:a.eval s=slice h.ao r.n h.cap)(w:aC H h r)(B:Addr)(m c:Nat)(b:List Value)(Y:a.eval x=slice (some B) m c)(W:b.length=m*r.size)(U:∀j u,b[j]?=some u->H.cell? (B.add j)=some u)(D:∀u∈b,u.oneCell'=true)(J:r.n+m<=maxLen)(K:(r.n+m)*d<=140737488355328)(I:∀f p,aC p f ⟨r.e,r.size,r.n+m,r.xs++b⟩->H.grownBy p h.blk->(f.blk=h.blk∨f.blk=some H.heap.size)->wpList P y Q l (a.put o.dst (slice f.ao (r.n+m) f.cap)) p) :
  wpList P y Q (o :: l) a H:=by
 refine wpList_append_own_at H V s x t E 0 r.e i z r.size d L M N O R S T (slice h.ao r.n h.cap) r.n r.xs X w B m c b Y W U D J K (SE _) ?_;intro v' p F G Z A;rw[AS]at G A;rcases F.2 with ⟨q,v⟩ | ⟨g,k,C,q,v⟩
 ·have:=I ⟨none,0⟩ p ⟨F.1,R4 ⟨by rw[v],v⟩⟩ G (by rw[q]at A;exact A);rw[q];rw[v]at this;exact this
 ·have:=I ⟨some ⟨g,0,none⟩,k⟩ p ⟨F.1,RZ ⟨g,k,C,rfl,v⟩⟩ G (by rw[q]at A;exact A);rw[q];exact this
def Ac(vs:List ByteArray)(bs:List (List ByteArray))(x:ByteArray):List ByteArray:=match mq vs x with | none=>[x] | some i=>bs.getD i []
def jq(vs:List ByteArray)(bs:List (List ByteArray)):List ByteArray->List ByteArray->List ByteArray
 | [],acc=>acc
 | x :: r,acc=>if acc.length<=32 then jq vs bs r (acc++Ac vs bs x) else acc
def mt(vs:List ByteArray)(bs:List (List ByteArray))(sy:List ByteArray):List ByteArray:=jq vs bs sy []
theorem OW(c:f<d.length)(b:l.length<=32):jq a v (d.drop f) l=jq a v (d.drop (f+1)) (l++Ac a v d[f]):=by
 rw[Sq c,jq,RY b]
theorem JY(b:¬l.length<=32):jq a v d l=l:=by
 cases d with
 | nil=>rfl
 | cons x r=>rw[jq,RU b]
theorem MY(b:¬f<d.length):jq a v (d.drop f) l=l:=by
 rw[Tv (by omega)];rfl
theorem Lv(x:ByteArray)(M:Nat)(c:1<=M)(h:∀b∈v,b.length<=M):(Ac a v x).length<=M:=by
 unfold Ac;split
 ·simpa using c
 ·next i _ =>
  rw[RT];cases e:v[i]? with
  | none=>simp
  | some b=>simpa using h b (TG e)
theorem Fo(g:1<=f)(h:∀b∈v,b.length<=f)(e c:List ByteArray)(d:c.length<=32+f):(jq a v e c).length<=32+f:=by
 induction e generalizing c with
 | nil=>exact d
 | cons x r i =>
  rw[jq];split
  ·have:=Lv a v x f g h;exact i _ (by simp;omega)
  ·exact d
theorem JX(d:1<=f)(h:∀b∈v,b.length<=f)(c:List ByteArray):(mt a v c).length<=32+f:=Fo a v f d h c [] (by simp)
theorem J7:(⟨(aG d).e,(aG d).size,(aG d).n+l.length,(aG d).xs++eS l⟩:eB)=aG (d++l):=by simp[aG,eS]
theorem kI.cells{d:Addr}(v:kI T L n)(e:L.ao=some d):∀j u,(eS n)[j]?=some u->T.cell? (d.add j)=some u:=by
 intro j u i;rcases v with rfl | ⟨g,a,k,t,f,l,m,-⟩
 ·simp[eS]at i
 ·rw[e]at f;cases f
  have b:(n[j]?).map string=some u:=by simpa [eS] using i
  cases c:n[j]? with
  | none=>rw[c]at b;cases b
  | some x =>
   rw[c]at b;cases b;have:(⟨g,a,none⟩:Addr).add j=⟨g,a+j,none⟩:=by
    simp only[Addr.add];split
    ·next o=>subst o;rfl
    ·rfl
   rw[this,aj l];exact m j x c
set_option maxRecDepth 100000
theorem qm(d:List Ex)(H:Nat->Hd)(hy:Hd)(f:List ByteArray)(B:World)(h:mF B w l d H)(hl:l.length<=10000)(an:∀e∈d,e.xs.length<=10000)(hv:kI B hy f)(ar:f.length<=10000) :
  Calls prog 275 #[pointer (some ⟨w,0,none⟩),slice hy.ao f.length hy.cap] B fun e w'=>∃o:Hd,
   e=returned (slice o.ao (mt l (d.map Ex.xs) f).length o.cap)/\aC w' o (aG (mt l (d.map Ex.xs) f))/\(∀x,o.blk=some x->B.heap.size<=x)/\aa [] B w':=by
 obtain⟨i0,hi,Y,Z,ac⟩:=Sr lA;obtain⟨ao,aS⟩:=hy;rcases hv with rfl | ⟨g,af,aT,t,e1,e2,e3,e4,e5⟩
 ·clear ar;go_enter func275,ntmps275;go_wp2;refine Uh 1 ?_;rw[UD];go_wp2;go_ret;exact⟨⟨none,0⟩,rfl,Sb _ _ _ _,by intro x v;simp[Hd.blk]at v,aa.refl _ _⟩
 simp only at e1 e4 e5;subst e1;obtain⟨R,HR⟩:∃R,Hid (R=mt l (d.map Ex.xs) f):=⟨_,rfl⟩
 rw[<-HR.out];go_enter func275,ntmps275;go_wp2
 go_loopg [5,6] f.length (fun gk sv i wr=>∃(k:Nat) (o:Hd) (a:List ByteArray),k<=f.length/\gk=f.length-k/\i=int i64 k/\sv=slice o.ao a.length o.cap/\a.length<=10032/\Hid (R=jq l (d.map Ex.xs) (f.drop k) a)/\aC wr o (aG a)/\(∀x,o.blk=some x->B.heap.size<=x)/\aa [] B wr)
 case atStart=>exact⟨0,⟨none,0⟩,[],by omega,by omega,rfl,rfl,by simp,HR.out,Sb _ _ _ _,by intro x v;simp[Hd.blk]at v,aa.refl _ _⟩
 case round =>
  obtain⟨k,o,a,hk,hg,rfl,rfl,a0,r,Q,L,D⟩:=hrel;have T:=h.Wj D;by_cases J:k<f.length
  ·by_cases ha:a.length<=32
   ·have al:(a.length:Int)<=32:=(by omega);have c2:wr.cell? ⟨g,af+k,none⟩=some (string f[k]):=(aj (D.get e2 (by simp)) (af+k)).trans (e3 k f[k] (RQ J));have z:Hid _:=r.out.trans (OW l (d.map Ex.xs) f a k J ha);have N:Hid _:=(fun w1 h1=>Kg w l d H f[k] w1 h1 (by omega));clear r e3;generalize f[k]=y at *;rcases hp:mq l y with _ | p
    ·have c:Hid (R=jq l (d.map Ex.xs) (f.drop (k+1)) (a++[y])):=(by show _=_;rw[z.out];simp[Ac,hp]);have S:=Q.Wo (fun x v=>((aa.refl [] wr).alloc (.cells #[string y] 9)).block x (Q.lt v) (by simp));clear z;(go_upto_region 7 with (go_at_call 279;refine(N.out _ T).mono ?_;rintro e w3 ⟨rfl,K⟩;rw[K,hp];simp only[qe]));go_wp2_with (at_builtin;refine aO _ rfl (.tmp 27) (.tmp 32) 61 rfl i0 (string ⟨#[]⟩) 16 o (aG a) underlying61 hi Y Z ac rfl So rfl (by exact S) ⟨_,0,none⟩ 1 1 [string y] rfl rfl ?d1 ?d2 So ?d3 ?d4 ?_)
     case d1=>intro j u hj;match j,hj with | 0,hj=>simp at hj;subst hj;simp[Addr.add]
     case d2=>intro u X;simp at X;subst X;rfl
     case d3=>simp only[aG];unfold maxLen;omega
     case d4=>simp only[aG];omega
     intro g5 O w5 s m b;rw[fj a y]at s;have P:=D.alloc (.cells #[string y] 9);have E:=P.grown m L;have V:B.heap.size<=g5:=by
      rcases b with e | e
      ·exact L g5 e
      ·have:=P.size;simp at e this;omega
     have C:Hid ((aG a).n+1=(a++[y]).length):=(by show _=_;simp[aG]);rw[C.out];clear m b S;go_wp2;go_roundg (f.length-(k+1))
     case measure=>omega
     case rel=>exact⟨k+1,⟨some ⟨g5,0,none⟩,O⟩,a++[y],by omega,rfl,by go_num,rfl,by simp;omega,c.out,s,by intro x v;simp[Hd.blk]at v;omega,E⟩
    ·have a2:p<l.length:=by
      have:=SU hp;simpa using this
     have a1:=h.len;have A:p<d.length:=(by omega);have c:Hid (R=jq l (d.map Ex.xs) (f.drop (k+1)) (a++d[p].xs)):=(by show _=_;rw[z.out];simp[Ac,hp,A]);have I:=T.exs d[p] (Sj A);have ap:=an d[p] (Sj A);obtain⟨ad,G⟩:=I.adr;have W:=I.view.cells G;obtain⟨s0,s1⟩:=T.cells;have F:aC wr (H 1) (gQ d):=T.bag.own 1;rcases F.Wu with ⟨_,h0,_⟩ | ⟨gb,ax,eb,-,ag,-⟩
     ·have:d.length=0:=h0;omega
     have cb:=F.cell eb p (wN d[p]) (tn d p A);have az:d.length<=(H 1).cap:=ag;rw[eb]at s1;unfold wN at cb;rw[G]at cb;have M:Hid _:=W;clear z I G W F eb;generalize d[p]=ex at *;obtain⟨ai,q⟩:=ex;simp only at cb ap c M;(go_upto_region 8 with (go_at_call 279;refine(N.out _ T).mono ?_;rintro e w3 ⟨rfl,K⟩;rw[K,hp];simp only[qe]));go_wp2_with (at_builtin;refine ue _ rfl (.tmp 34) (.tmp 41) 61 rfl i0 (string ⟨#[]⟩) 16 o (aG a) underlying61 hi Y Z ac rfl So rfl (by exact Q) ad q.length ai.cap (eS q) rfl (by simp[eS,aG]) M.out ?d2 ?d3 ?d4 ?_)
     case d2=>intro u X;simp[eS]at X;obtain⟨_,_,rfl⟩:=X;rfl
     case d3=>simp only[aG];unfold maxLen;omega
     case d4=>simp only[aG];omega
     intro U w5 s m b;rw[J7 a q]at s;have E:=D.grown m L;have V:∀x,U.blk=some x->B.heap.size<=x:=by
      intro x v;rcases b with e | e
      ·exact L x (e ▸ v)
      ·rw[e]at v;cases v;exact D.size
     have C:Hid ((aG a).n+q.length=(a++q).length):=(by show _=_;simp[aG]);rw[C.out];clear m b;go_wp2;go_roundg (f.length-(k+1))
     case measure=>omega
     case rel=>exact⟨k+1,U,a++q,by omega,rfl,by go_num,rfl,by simp;omega,c.out,s,V,E⟩
   ·have al:¬(a.length:Int)<=32:=(by omega);have c:Hid (a=R):=(r.out.trans (JY _ _ _ _ ha)).symm;clear r e3;go_wp2;go_ret;exact⟨o,by rw[<-c.out];rfl,by rw[<-c.out];exact Q,L,D⟩
  ·have c:Hid (a=R):=(r.out.trans (MY _ _ _ _ _ J)).symm;clear r e3;go_wp2;go_ret;exact⟨o,by rw[<-c.out];rfl,by rw[<-c.out];exact Q,L,D⟩
def lK(s:St)(e:List ByteArray)(S:List ByteArray×List (List ByteArray)):Int×List ByteArray×List (List ByteArray) :=
 if(s.kind==3)=true then(if yq (mt S.1 S.2 s.We) e=true then(0,S) else(8,S))
 else match e with
  | []=>(7,S)
  | x :: r=>if(x.toList==(gF s).toList)=true then(0,S.1++[aL s],S.2++[r]) else(7,S)
structure rG(w:World)(b:Nat)(H:Nat->Hd)(h:Hd)(l:List ByteArray):Prop where
 view:kI w h l
 far:∀x,h.blk=some x->x<w.heap.size/\x≠b/\¬gO H x
theorem rG.Wj(f:rG T S y L n)(k:aa [] T o):rG o S y L n :=
 ⟨f.view.Wj k,fun x a=>⟨R6 (f.far x a).1 k.size,(f.far x a).2⟩⟩
def ju(g off cap:Nat)(r:List ByteArray):Ex:=⟨⟨if cap=1 then some ⟨g,off,none⟩ else some ⟨g,off+1,none⟩,cap-1⟩,r⟩
theorem Nq:(ju k i w l).hd.blk=some k:=by unfold ju Hd.blk;simp only;split <;> rfl
theorem Pc{g a:Nat}{x:ByteArray}(h:rG T S y ⟨some ⟨g,a,none⟩,f⟩ (x :: n)):Bw T S y (ju g a f n):=by
 have q:(ju g a f n).hd.blk=some g:=by unfold ju Hd.blk;simp only;split <;> rfl
 refine⟨?_,?_,fun d b=>h.far d (by rw[q]at b;exact b)⟩
 ·by_cases e:n=[]
  ·subst e;exact R4 rfl
  ·rcases h.view with r | ⟨s,i,c,t,k,l,m,o,p⟩
   ·cases r
   ·cases k
    have u:0<n.length:=U5.2 e;simp only[List.length_cons]at o;refine RZ ⟨g,a+1,c,t,by simp only[ju];rw[RU (by omega)],l,fun j d b=>?_,by simp only[ju];omega,by simp only[ju]at p ⊢;omega⟩;have:=m (j+1) d (by simpa [ju] using b);rw[show a+1+j=a+(j+1) by omega];exact this
 ·unfold ju;simp only;split
  ·exact⟨_,rfl⟩
  ·exact⟨_,rfl⟩
theorem N8(a:List Ex)(H:Nat->Hd)(s:St)(D F O:Hd)(C:List ByteArray)(i:World)(h:mF i w l a H)(hl:l.length<=9999)(ac:∀e∈a,e.xs.length<=10000)(hs:kI i D s.We)(a3:s.We.length<=10000)(hx:rG i w H O C)(bw:C.length<=10000) :
  Calls prog 273 #[pointer (some ⟨w,0,none⟩),fL s D F,slice O.ao C.length O.cap] i fun e d=>∃(S:List Ex) (H':Nat->Hd),
   e=returned (int i64 (lK s C (l,a.map Ex.xs)).1)/\mF d w (lK s C (l,a.map Ex.xs)).2.1 S H'/\S.map Ex.xs=(lK s C (l,a.map Ex.xs)).2.2/\aB w i H d H'/\∀e∈S,e∈a∨e.hd.blk=O.blk:=by
 obtain⟨i0,hi,ba,bc,bd⟩:=Sr lA;obtain⟨i1,a0,a5,a6,a7⟩:=Sr Mg;have bs:a.length<=9999:=by have:=h.len;omega
 unfold fL;obtain⟨W,hW⟩:∃W,W=i.alloc (.cells #[int i64 s.kind,string s.label,slice D.ao s.We.length D.cap,slice F.ao s.Wp.length F.cap,string s.fin.file,int i64 s.fin.line,int i64 s.fin.col,int i64 s.til] 158):=⟨_,rfl⟩
 have K:=fN hW.symm;have B:=fY hW.symm;have HW:Hid _:=hW.symm;obtain⟨u0,u1,u2,u3,u4,u5,u6,u7⟩:=vI B;have V:=h.Wj K;have M:=hs.Wj K;have ap:=hx.Wj K;clear hW;cases Q:(s.kind==3)
 ·rcases C with _ | ⟨x,r⟩
  ·have p:Hid (lK s [] (l,a.map Ex.xs)=(7,l,a.map Ex.xs)):=(by show _=_;simp[lK,Q]);clear u1 u2 u3 u4 u5 u6 u7;go_enter func273,ntmps273;(go_upto_region 1 with fail);rw[HW.out];(go_upto_region 5 with fail);go_quiet (fail);go_wp2;go_ret;exact⟨a,H,au (by rw[p.out]),by rw[p.out];exact V.Wj ((aa.refl [] _).drewN _),by rw[p.out],(aB.refl _ _ _).Wj (K.drewN _),fun _ q=>R4 q⟩
  ·obtain⟨bk,b⟩:=O;rcases ap.view with ag | ⟨g,c,bl,t,e1,e2,e3,e4,e5⟩
   ·cases ag
   simp only at e1 e4 e5;subst e1;have a1:¬((r.length:Int)+1==0)=true:=by simp;omega
   have HN:Hid ((x :: r).length=r.length+1):=rfl;have bv:(0:Int)<(r.length:Int)+1:=(by omega);have bj:(1:Int)<=(r.length:Int)+1:=(by omega);rw[HN.out]at *;have cx:W.cell? ⟨g,c,none⟩=some (string x):=by have:=(aj e2 c).trans (by simpa using e3 0 x rfl);exact this
   have br:=ae e2;have TC:=Bf s D F;unfold fL at TC;have Z:Hid _:=TC;have HC:Hid (∀d,aa [] W.drew d->d.cell? ⟨g,c,none⟩=some (string x)/\d.cell? ⟨i.heap.size,0,none⟩=some (int i64 s.kind)/\d.cell? ⟨i.heap.size,1,none⟩=some (string s.label)/\d.cell? ⟨i.heap.size,2,none⟩=some (slice D.ao s.We.length D.cap)/\d.cell? ⟨i.heap.size,3,none⟩=some (slice F.ao s.Wp.length F.cap)/\d.cell? ⟨i.heap.size,4,none⟩=some (string s.fin.file)/\d.cell? ⟨i.heap.size,5,none⟩=some (int i64 s.fin.line)/\d.cell? ⟨i.heap.size,6,none⟩=some (int i64 s.fin.col)/\d.cell? ⟨i.heap.size,7,none⟩=some (int i64 s.til)):=by
    intro d k;have q:=k.get (show W.drew.heap[i.heap.size]?=_ from B) (by simp);have q2:=k.get (show W.drew.heap[g]?=_ from e2) (by simp);refine⟨(aj q2 c).trans (by simpa using e3 0 x rfl),?_,?_,?_,?_,?_,?_,?_,?_⟩ <;> (rw[aj q];rfl)
   clear TC e3;go_enter func273,ntmps273;(go_upto_region 1 with fail);rw[HW.out];(go_upto_region 5 with fail);cases hc:(x.toList==(gF s).toList)
   ·have p:Hid (lK s (x :: r) (l,a.map Ex.xs)=(7,l,a.map Ex.xs)):=(by show _=_;simp[lK,Q,hc]);have az:(x.toList != (gF s).toList)=true:=(by simp[bne,hc]);go_region_held3 (fun d=>d.cell? ⟨g,c,none⟩=some (string x)/\d.cell? ⟨i.heap.size,0,none⟩=some (int i64 s.kind)/\d.cell? ⟨i.heap.size,1,none⟩=some (string s.label)/\d.cell? ⟨i.heap.size,2,none⟩=some (slice D.ao s.We.length D.cap)/\d.cell? ⟨i.heap.size,3,none⟩=some (slice F.ao s.Wp.length F.cap)/\d.cell? ⟨i.heap.size,4,none⟩=some (string s.fin.file)/\d.cell? ⟨i.heap.size,5,none⟩=some (int i64 s.fin.line)/\d.cell? ⟨i.heap.size,6,none⟩=some (int i64 s.fin.col)/\d.cell? ⟨i.heap.size,7,none⟩=some (int i64 s.til)) (go_keep) (first | (go_at_call 192;refine(Z.out _ (by exact M.Wj (aa.refl [] _).drew) (by omega)).mono ?_;rintro e U ⟨rfl,E⟩;obtain⟨x0,x1,x2,x3,x4,x5,x6,x7,x8⟩:=HC.out U E))
    all_goals
     clear u0 u1 u2 u3 u4 u5 u6 u7 cx;go_wp2;go_ret;exact⟨a,H,au (by rw[p.out]),by rw[p.out];exact V.Wj (((aa.refl [] _).drew).trans E),by rw[p.out],(aB.refl _ _ _).Wj (K.drew.trans E),fun _ q=>R4 q⟩
   ·have p:Hid (lK s (x :: r) (l,a.map Ex.xs)=(0,l++[aL s],a.map Ex.xs++[r])):=(by show _=_;simp[lK,Q,hc]);have az:(x.toList != (gF s).toList)=false:=(by simp[bne,hc]);have VA:=pq s D F;unfold fL at VA;have ar:Hid _:=VA;clear VA;go_region_held3 (fun d=>d.cell? ⟨g,c,none⟩=some (string x)/\d.cell? ⟨i.heap.size,0,none⟩=some (int i64 s.kind)/\d.cell? ⟨i.heap.size,1,none⟩=some (string s.label)/\d.cell? ⟨i.heap.size,2,none⟩=some (slice D.ao s.We.length D.cap)/\d.cell? ⟨i.heap.size,3,none⟩=some (slice F.ao s.Wp.length F.cap)/\d.cell? ⟨i.heap.size,4,none⟩=some (string s.fin.file)/\d.cell? ⟨i.heap.size,5,none⟩=some (int i64 s.fin.line)/\d.cell? ⟨i.heap.size,6,none⟩=some (int i64 s.fin.col)/\d.cell? ⟨i.heap.size,7,none⟩=some (int i64 s.til)) (go_keep) (first | (go_at_call 192;refine(Z.out _ (by exact M.Wj (aa.refl [] _).drew) (by omega)).mono ?_;rintro e U ⟨rfl,E⟩;obtain⟨x0,x1,x2,x3,x4,x5,x6,x7,x8⟩:=HC.out U E))
    all_goals
     have L:=V.Wj (((aa.refl [] _).drew).trans E);have bo:=L.bag.lt;have aT:=L.bag.free;obtain⟨m0,m1⟩:=L.cells;have a4:=M.Wj (((aa.refl [] _).drew).trans E);clear u0 u1 u2 u3 u4 u5 u6 u7 cx x0;(go_upto_region 7 with fail);have s4:Hid ((aG l).n+1<=maxLen):=(by show _<=_;simp only[aG];unfold maxLen;omega);have s5:Hid (((aG l).n+1)*16<=140737488355328):=(by show _<=_;simp only[aG];omega);have s3:Hid (∀u∈([string (aL s)]:List Value),u.oneCell'=true):=(by intro u hu;simp at hu;subst hu;rfl);have ax:Hid (∀J,aa [] U.drew J->mF J w l a H/\mF (J.alloc (.cells #[string (aL s)] 9)) w l a H/\∀j u,([string (aL s)]:List Value)[j]?=some u->(J.alloc (.cells #[string (aL s)] 9)).cell? ((⟨J.heap.size,0,none⟩:Addr).add j)=some u):=by
      intro J k;have q:=L.Wj (((aa.refl [] U).drew).trans k);refine⟨q,q.Wj ((aa.refl [] _).alloc _),fun j u G=>?_⟩;have Q:(J.alloc (.cells #[string (aL s)] 9)).heap[J.heap.size]?=some (.cells #[string (aL s)] 9):=R2 _ _;rw[bS,aj Q];simpa using G
     have a2:Hid (∀j,j≠0->qs (l++[aL s]) a j=qs l a j):=by
      intro j G
      match j,G with
      | 0,G=>exact absurd rfl G
      | 1,_=>rfl
      | m+2,_=>rfl
     go_region_law (first | (refine cO rfl (.tmp 32) (.tmp 35) 61 rfl i0 (string ⟨#[]⟩) 16 (H 0) (aG l) underlying61 hi ba bc bd rfl So (by simp[Act.eval] <;> rfl) (y1.bag.own 0) ⟨_,0,none⟩ 1 1 [string (aL s)] (by simp[Act.eval] <;> rfl) rfl y2 s3.out So s4.out s5.out ?_;intro I f w5 al af A;obtain⟨k5,f5,HP⟩:=bi.app y1.bag (cs':=pj (l++[aL s]) a (ip H 0 ⟨some ⟨I,0,none⟩,f⟩)) (rows':=qs (l++[aL s]) a) 0 0 I f ((aG l).n+1) _ al (fj l (aL s)) af (by simpa using A) a2.out (slice (H 0).ao l.length (H 0).cap) rfl (by simp[pj,ip,aG]);clear al af A) | (go_simp;go_at_call 190;refine(ar.out _ (by exact a4.Wj (aa.refl [] _).drew) (by omega)).mono ?_;rintro e J ⟨rfl,k4⟩;obtain⟨y0,y1,y2⟩:=ax.out J k4;obtain⟨n0,n1⟩:=y0.cells;obtain⟨p0,p1⟩:=y1.cells))
     all_goals
      generalize hX:w5.setCell ⟨w,0,none⟩ (slice (some ⟨I,0,none⟩) ((aG l).n+1) f)=X at HP ⊢;have T5:Hid (aB w i H X (ip H 0 ⟨some ⟨I,0,none⟩,f⟩)):=(((HP.out.2.first ((aa.refl [] _).alloc _)).first (((aa.refl [] U).drew).trans k4)).first (K.drew.trans E));have D5:=HP.out.1;have q1:=D5.cell 1;have aS:=D5.free;have bp:=D5.lt;simp only[pj,List.getElem?_cons_succ,List.getElem?_cons_zero]at q1;clear hX k5 f5 n0 n1 p0 p1 y0 y1 y2 m0 m1 aT x1 x2 x3 x4 x5 x6 x7 x8;(go_upto_region 8 with fail);have hD:Hid (bi (X.alloc (.cells #[wN (ju g c b r)] 61)).drew w 343 (pj (l++[aL s]) a (ip H 0 ⟨some ⟨I,0,none⟩,f⟩)) (qs (l++[aL s]) a) (ip H 0 ⟨some ⟨I,0,none⟩,f⟩)):=D5.Wj ((aa.refl [] X).alloc _).drew;have s2:Hid (∀j u,([wN (ju g c b r)]:List Value)[j]?=some u->(X.alloc (.cells #[wN (ju g c b r)] 61)).drew.cell? ((⟨X.heap.size,0,none⟩:Addr).add j)=some u):=by
       intro j u G;have Q:(X.alloc (.cells #[wN (ju g c b r)] 61)).drew.heap[X.heap.size]?=some (.cells #[wN (ju g c b r)] 61):=R2 _ _;rw[bS,aj Q];simpa using G
      have T:Hid (∀u∈([wN (ju g c b r)]:List Value),u.oneCell'=true):=(by intro u hu;simp at hu;subst hu;rfl);have bf:Hid ((gQ a).n+1<=maxLen):=(by show _<=_;simp only[gQ];unfold maxLen;omega);have bg:Hid (((gQ a).n+1)*24<=140737488355328):=(by show _<=_;simp only[gQ];omega);have ai:Hid (∀j,j≠1->qs (l++[aL s]) (a++[ju g c b r]) j=qs (l++[aL s]) a j):=by
       intro j G
       match j,G with
       | 0,_=>rfl
       | 1,G=>exact absurd rfl G
       | m+2,_=>rfl
      unfold wN at hD s2 T;simp only[ju]at hD s2 T;go_region_law (refine cO rfl (.tmp 43) (.tmp 46) 218 rfl i1 (slice none 0 0) 24 (ip H 0 ⟨some ⟨I,0,none⟩,f⟩ 1) (gQ a) underlying218 a0 a5 a6 a7 rfl So (by simp[Act.eval] <;> rfl) (hD.out.own 1) ⟨X.heap.size,0,none⟩ 1 1 _ (by simp[Act.eval]) rfl s2.out T.out So bf.out bg.out ?_;intro g6 N w6 an P o;obtain⟨k6,f6,Y⟩:=bi.app hD.out (cs':=pj (l++[aL s]) (a++[ju g c b r]) (ip (ip H 0 ⟨some ⟨I,0,none⟩,f⟩) 1 ⟨some ⟨g6,0,none⟩,N⟩)) (rows':=qs (l++[aL s]) (a++[ju g c b r])) 1 1 g6 N ((gQ a).n+1) _ an (uK a (ju g c b r)) P (by simpa using o) ai.out (slice (ip H 0 ⟨some ⟨I,0,none⟩,f⟩ 1).ao a.length (ip H 0 ⟨some ⟨I,0,none⟩,f⟩ 1).cap) rfl (by simp[pj,ip,gQ]);clear an P o)
      all_goals
       have T6:Hid _:=T5.out.trans (Y.out.2.first ((aa.refl [] _).alloc _).drew);clear q1 aS k6 f6;generalize (if b=1 then some (⟨g,c,none⟩:Addr) else some ⟨g,c+1,none⟩)=AE;go_wp2;go_ret;refine⟨a++[ju g c b r],_,au (by rw[p.out]),?_,by rw[p.out];simp[ju],T6.out,fun e q=>by rw[SB]at q;rcases q with q | q;exact R4 q;simp at q;subst q;exact RZ (Nq g c b r)⟩;rw[p.out];refine⟨Y.out.1,by simp[h.len],?_⟩;intro e z;rw[SB]at z;rcases z with z | z
       ·exact(h.exs e z).turned T6.out
       ·simp at z;subst z;exact(Pc b hx).turned T6.out
 ·go_enter func273,ntmps273;go_upto_region 1 with fail
  rw[HW.out];have RA:=qm w l a H D s.We W V (by omega) ac M a3;have RL:=JX l (a.map Ex.xs) 10000 (by omega) (by intro y hy;obtain⟨e,O,rfl⟩:=Tw.1 hy;exact ac e O) s.We;have p:Hid (lK s C (l,a.map Ex.xs)=if yq (mt l (a.map Ex.xs) s.We) C=true then(0,l,a.map Ex.xs) else(8,l,a.map Ex.xs)):=by show _=_;simp[lK,Q]
  generalize mt l (a.map Ex.xs) s.We=R at *;clear u1 u3 u4 u5 u6 u7;go_wp2_with fail;refine RA.mono ?_;rintro e w2 ⟨hd,rfl,ho,hn,k2⟩;go_wp2_with fail;refine(yZ hd O R C w2 ho.view (ap.view.Wj k2) (by omega) (by omega)).mono ?_;rintro e U ⟨rfl,E⟩;cases ad:yq R C
  ·have v:Hid (lK s C (l,a.map Ex.xs)=(8,l,a.map Ex.xs)):=(by show _=_;rw[p.out,ad];simp);clear p RA;go_wp2;go_ret;exact⟨a,H,au (by rw[v.out]),by rw[v.out];exact(V.Wj k2).Wj E,by rw[v.out],(aB.refl _ _ _).Wj ((K.trans k2).trans E),fun _ q=>R4 q⟩
  ·have v:Hid (lK s C (l,a.map Ex.xs)=(0,l,a.map Ex.xs)):=(by show _=_;rw[p.out,ad];simp);clear p RA;go_wp2;go_ret;exact⟨a,H,au (by rw[v.out]),by rw[v.out];exact(V.Wj k2).Wj E,by rw[v.out],(aB.refl _ _ _).Wj ((K.trans k2).trans E),fun _ q=>R4 q⟩
end Go.Proofs.YtnbhnocdhbcbcaaGreat
