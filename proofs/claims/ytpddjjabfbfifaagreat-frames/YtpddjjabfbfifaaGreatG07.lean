import Derived.BigQuiet
import Derived.Maps.AppendAt
import Derived.Test.YtpddjjabfbfifaaGreatG06
namespace Go.Proofs.YtpddjjabfbfifaaGreat
open Go.RowKit Tryz
set_option maxRecDepth 100000
set_option maxHeartbeats 40000000
variable{S o:World}{n a g zt y6:Nat}{z6:Hd}{y N:List ByteArray}{d:Nat->Hd}{z7 zb:List Nat}{z4:Nat->List Nat}(y4 y7 y8 D I w:Nat)(x:List ByteArray)(M:List Bool)(y5 z5 i:Hd)(L:List (List ByteArray))(T:List ByteArray)(b:List St)(k:Nat->Hd)(l:List ByteArray)(v:List Nat)(f:Nat)(H:World)
def Ec(f:pA):Array Value:=#[.int .i64 f.1,.string f.2.file,.int .i64 f.2.line,.int .i64 f.2.col]
theorem jh{f:pA}(h:S.heap[n]?=some (.cells (Ec f) 165 (0,0))) :
  S.cell? ⟨n,0,none⟩=some (.int .i64 f.1)/\S.cell? ⟨n,1,none⟩=some (.string f.2.file)/\S.cell? ⟨n,2,none⟩=some (.int .i64 f.2.line)/\S.cell? ⟨n,3,none⟩=some (.int .i64 f.2.col):=by
 refine⟨?_,?_,?_,?_⟩ <;> (rw[aa h];rfl)
theorem Bp(s:St)(c:b.length<=10000)(d:s.Vh.length<=10000):gu ⟨(dD b f s.fin 1 (s.Vh.drop 1) (aK b f)).2,[],[],0,false⟩ 20000:=by
 have a:=(yj b f s.fin (s.Vh.drop 1) 1 (aK b f)).2;have e:(aK b f).length<=b.length:=oy b f b.length;simp only[List.length_drop]at a;exact⟨by simp only;omega,by simp,by simp,by simp,by simp⟩
theorem rJ(hr:dF H D I b k)(ha:w<b.length)(ok:iH b)(be:yc b[w]) :
  Calls prog 138 #[.pointer (some ⟨D,I,none⟩),.int .i64 w] H fun e w'=>∃hd:Hd,
   e=.returned (.tuple #[.slice hd.ao (lK b w b[w]).1.length hd.cap,gU (lK b w b[w]).2])/\aw w' hd (go (lK b w b[w]).1)/\(∀x,hd.blk=some x->H.heap.size<=x)/\ab [] H w':=by
 have cl:=hr.lt;have b1:=ok.len;have ch:=ok.prfs w ha;have cy:(aK b w).length<=b.length:=oy b w b.length;obtain⟨AO,bT⟩:∃AO,Hid ((k (11+2*w)).ao=AO):=⟨_,rfl⟩
 obtain⟨W,hW⟩:∃W,W=H.alloc (.cells #[.int .i64 0,.string ⟨#[]⟩,.int .i64 0,.int .i64 0] 165):=⟨_,rfl⟩
 have K:ab [] H W:=by rw[hW];exact(ab.refl [] _).alloc _
 have BF:W.heap[H.heap.size]?=some (.cells bA 165 (0,0)):=by rw[hW];exact QS _ _
 have HW:=hI hW.symm;clear hW;go_enter func138,ntmps138
 go_upto_region 1 with fail
 rw[HW.out];go_wp2_with fail;refine(a9 D I w b k _ (hr.Vb K) ha).mono ?_;rintro e n ⟨rfl,S⟩;unfold ee;rw[bT.out];obtain⟨TB,aS⟩:∃TB:Array Value,TB=#[.int .i64 b[w].kind,.string b[w].label,.slice (k (10+2*w)).ao b[w].U6.length (k (10+2*w)).cap,.slice AO b[w].Vh.length (k (11+2*w)).cap,.string b[w].fin.file,.int .i64 b[w].fin.line,.int .i64 b[w].fin.col,.int .i64 b[w].til]:=⟨_,rfl⟩
 obtain⟨W2,E⟩:∃W2,W2=n.alloc (.cells #[.int .i64 b[w].kind,.string b[w].label,.slice (k (10+2*w)).ao b[w].U6.length (k (10+2*w)).cap,.slice AO b[w].Vh.length (k (11+2*w)).cap,.string b[w].fin.file,.int .i64 b[w].fin.line,.int .i64 b[w].fin.col,.int .i64 b[w].til] 158):=⟨_,rfl⟩
 have a7:=hI E.symm;have K2:ab [] H W2:=by rw[E];exact(K.trans S).alloc _
 have BT:W2.heap[n.heap.size]?=some (.cells TB 158 (0,0)):=by rw[E,aS];exact QS _ _
 have ba:W2.heap[H.heap.size]?=some (.cells bA 165 (0,0)):=by rw[E];exact((ab.refl [] _).alloc _).get (S.get BF (by simp)) (by simp)
 have ct:H.heap.size<n.heap.size:=by have:=ae (S.get BF (by simp));omega
 have cx:=ae BT;have q:=hI aS;clear E aS
 go_upto_region 2 with fail
 rw[a7.out];clear HW a7 S BF K;have ag:=K2.size;have bj:=hr.Vb K2;go_wp2_with fail;refine(mA D I w b k _ bj ha ok).mono ?_;rintro e F ⟨o,rfl,b3,a6,B⟩
 have CM:dL (F.alloc (.cells #[.slice o.ao (aK b w).length o.cap,.slice none 0 0,.slice none 0 0,.int .i64 0,.bool false] 279)) F.heap.size ⟨aK b w,[],[],0,false⟩ (xL o):=Nf (cs:=lF ⟨aK b w,[],[],0,false⟩ (xL o)) (rows:=wW ⟨aK b w,[],[],0,false⟩) b3 (by
  intro i
  match i with
  | 0=>exact QZ _ _ _ _
  | 1=>exact QZ _ _ _ _
  | m+2=>exact QZ _ _ _ _)
 have K4:ab [] H (F.alloc (.cells #[.slice o.ao (aK b w).length o.cap,.slice none 0 0,.slice none 0 0,.int .i64 0,.bool false] 279)):=(K2.trans B).alloc _;have an:(F.alloc (.cells #[.slice o.ao (aK b w).length o.cap,.slice none 0 0,.slice none 0 0,.int .i64 0,.bool false] 279)).heap[n.heap.size]?=some (.cells TB 158 (0,0)):=((ab.refl [] _).alloc _).get (B.get BT (by simp)) (by simp);have az:(F.alloc (.cells #[.slice o.ao (aK b w).length o.cap,.slice none 0 0,.slice none 0 0,.int .i64 0,.bool false] 279)).heap[H.heap.size]?=some (.cells bA 165 (0,0)):=((ab.refl [] _).alloc _).get (B.get ba (by simp)) (by simp);have cq:W2.heap.size<=F.heap.size:=B.size;have j:∀x,f9 (xL o) x->W2.heap.size<=x:=fun x a=>a6 x (NP a)
 obtain⟨W4,al⟩:∃W4,W4=F.alloc (.cells #[.slice o.ao (aK b w).length o.cap,.slice none 0 0,.slice none 0 0,.int .i64 0,.bool false] 279):=⟨_,rfl⟩
 rw[<-al]at CM K4 an az;have bd:=hI al.symm;clear al b3 a6 B BT ba
 go_upto_region 3 with fail
 rw[bd.out];clear bd;have b2:=Bp b w b[w] b1 ch;have bl:=(yj b w b[w].fin (b[w].Vh.drop 1) 1 (aK b w)).1;have T:=xS F.heap.size ⟨aK b w,[],[],0,false⟩ (xL o) D I w b k H W4 CM hr K4 ha ok (by simp only;omega) (by omega) (fun x a=>Q3 ag (j x a));have bs:Hid (Gb b w b[w]=Gz (dD b w b[w].fin 1 (b[w].Vh.drop 1) (aK b w)).1.2 (b[w].Vh.drop (dD b w b[w].fin 1 (b[w].Vh.drop 1) (aK b w)).1.1) ⟨(dD b w b[w].fin 1 (b[w].Vh.drop 1) (aK b w)).2,[],[],0,false⟩):=rfl;simp only at T;have cp:=a8.lt CM;simp only[List.length_drop]at bl;generalize dD b w b[w].fin 1 (b[w].Vh.drop 1) (aK b w)=BL at *;obtain⟨⟨nx,bf,bp⟩,ns⟩:=BL;simp only at T bs b2 bl;go_wp2_with fail;refine T.mono ?_;rintro e d ⟨rfl,H5,D5,T5⟩;unfold gU
 have K5:=K4.ofP T5.1 (fun x a=>by
  rcases a with e | e
  ·omega
  ·exact Q3 ag (j x e))
 have n1:¬f9 H5 H.heap.size:=T5.fresh _ (by omega) (fun hm=>by have:=j _ hm;omega);have n2:¬f9 H5 n.heap.size:=T5.fresh _ (by omega) (fun hm=>by have:=j _ hm;omega)
 have nb:∀x,f9 H5 x->H.heap.size<=x:=fun x a=>by
  rcases T5.2 x a with e | e
  ·exact Q3 ag (j x e)
  ·omega
 have bo:=T5.1.get an (by rintro (e | e);omega;have:=j _ e;omega);have bw:=T5.1.get az (by rintro (e | e);omega;have:=j _ e;omega);have n3:¬f9 H5 d.heap.size:=fun hm=>by have:=a8.inlt D5 hm;omega
 have cA:=T5.1.size;obtain⟨W6,U⟩:∃W6,W6=d.alloc (.cells #[.int .i64 bf,.string bp.file,.int .i64 bp.line,.int .i64 bp.col] 165):=⟨_,rfl⟩
 have k6:ab [] d W6:=by rw[U];exact(ab.refl [] _).alloc _
 have bc:W6.heap[d.heap.size]?=some (.cells (Ec (bf,bp)) 165 (0,0)):=by rw[U];exact QS _ _
 have C6:=dL.Vb D5 k6;have bk:=k6.get bo (by simp);have b0:=k6.get bw (by simp);have K6:=K5.trans k6;have bv:=hI U.symm;clear U
 go_upto_region 4 with fail
 rw[bv.out];clear bv an az bo bw D5 T5 T CM K4 K5 bj k6;go_wp2
 go_loopg [10] (b[w].Vh.length-nx) (fun gk iv wr=>∃(i:Nat) (h:mg) (u:Nat->Hd) (g:pA) (N:Nat),i<=10001/\gk=b[w].Vh.length-i/\iv=.int .i64 i/\gu h N/\N+kt (b[w].Vh.drop i)<=1020000/\Hid (Gb b w b[w]=Gz g (b[w].Vh.drop i) h)/\dL wr F.heap.size h u/\(∀x,f9 u x->H.heap.size<=x)/\ab [] H wr /\
  wr.heap[H.heap.size]?=some (.cells bA 165 (0,0))/\wr.heap[n.heap.size]?=some (.cells TB 158 (0,0))/\wr.heap[d.heap.size]?=some (.cells (Ec g) 165 (0,0))/\¬f9 u H.heap.size/\¬f9 u n.heap.size/\¬f9 u d.heap.size)
 case atStart=>exact⟨nx,_,H5,(bf,bp),20000,by omega,by omega,rfl,b2,by have:=C2 b[w].Vh nx;have:=be.size;omega,bs,C6,nb,K6,b0,bk,bc,n1,n2,n3⟩
 case round =>
  obtain⟨i,h,u,g,N,hi,hg,rfl,ac,hN,X,hC,ax,KW,B1,Y,B9,n1,n2,n3⟩:=hrel;clear C6 nb K6 b0 bk bc;have cf:=hr.Vb KW;have bg:=ae B1;have br:=ae Y;have b5:=ae B9;have s:=cf.Vn.prfs w b[w] (QP ha);obtain⟨f0,f1,f2,f3⟩:=jh B9;have yf:=am B9;obtain⟨M,J,O,L⟩:=da B1;have yz:=am B1;have cu:((i:Int) ≥ 0):=by omega
  obtain⟨af,a5,ap,a4,ad⟩:=hC.cells;have co:=a8.lt hC
  by_cases A:i<b[w].Vh.length
  ·cases c:(g.1==0)
   ·have t3:wr.cell? ⟨n.heap.size,3,none⟩=some (.slice AO b[w].Vh.length (k (11+2*w)).cap):=by rw[aa Y,q.out];rfl
    have p:Hid (lK b w b[w]=([],g)):=by show _=_;unfold lK;rw[X.out,GA _ _ _ c];simp[uF,c]
    have l:(g.1 != 0)=true:=by simp[bne,c]
    clear X s
    go_upto_region 13 with fail
    go_region
    all_goals go_wp2
    all_goals exact QY (v:=.tuple #[.slice none 0 0,.agg #[.int .i64 g.1,.string g.2.file,.int .i64 g.2.line,.int .i64 g.2.col]]) (by simp[results,results138,go_sem,M,J,O,L]) rfl ⟨⟨none,0⟩,by rw[p.out];rfl,by rw[p.out];exact QZ _ _ _ _,by intro x a;simp[Hd.blk]at a,(kH KW (QR _) _ _ _ _).drew⟩
   ·obtain⟨gp,ep,ck,cb,d0,d1,d2,d3⟩:=s.word i A
    obtain rfl:AO=some ⟨gp,0,none⟩:=bT.out.symm.trans ep;have t3:wr.cell? ⟨n.heap.size,3,none⟩=some (.slice (some ⟨gp,0,none⟩) b[w].Vh.length (k (11+2*w)).cap):=by rw[aa Y,q.out];rfl
    have cz:gp<wr.heap.size:=s.lt (by unfold Hd.blk;rw[ep];rfl);clear ep s;have Z:=be.col b[w].Vh[i] (Rb A);have cj:=Fd b[w].Vh i A;have aT:=hI (X.out.trans (Pm g b[w].Vh h i A c));have ar:=zr b[w].Vh[i].1 b[w].Vh[i].2 ac;have TW:=AD F.heap.size h u b[w].Vh[i].1 b[w].Vh[i].2.file b[w].Vh[i].2.line b[w].Vh[i].2.col wr hC N ac (by omega) Z;clear X;generalize b[w].Vh[i]=wd at *;obtain⟨t,pf,pl,pc⟩:=wd;simp only at d0 d1 d2 d3 aT ar TW Z cj;generalize mT t ⟨pf,pl,pc⟩ h=Q at *;obtain⟨⟨qf,qp⟩,c2⟩:=Q;simp only at aT ar TW;unfold gU at TW;clear M J O L yz af a5 ap a4 ad;go_wp2_with fail;refine TW.mono ?_;rintro e w7 ⟨rfl,H7,D7,V⟩
    have bx:∀x,(x=F.heap.size∨f9 u x)->H.heap.size<=x:=by
     rintro x (e | e)
     ·omega
     ·exact ax x e
    have K7:=KW.ofP V.1 bx;have q1:=V.1.get B1 (by rintro (e | e);omega;exact n1 e);have q2:=V.1.get Y (by rintro (e | e);omega;exact n2 e);have q9:=V.1.get B9 (by rintro (e | e);omega;exact n3 e);have m1:=V.fresh H.heap.size bg n1;have m2:=V.fresh n.heap.size br n2;have m3:=V.fresh d.heap.size b5 n3;have y9:=am q9
    have m4:∀x,f9 H7 x->H.heap.size<=x:=fun x a=>by
     rcases V.2 x a with e | e
     ·exact ax x e
     ·omega
    have kk:=fun a0 a1 a2 a3=>ji (w:=w7) (r:=d.heap.size) a0 a1 a2 a3
    have ai:=hI kk
    have cc:Hid (∀a0 a1 a2 a3,((((w7.setCell ⟨d.heap.size,0,none⟩ a0).setCell ⟨d.heap.size,1,none⟩ a1).setCell ⟨d.heap.size,2,none⟩ a2).setCell ⟨d.heap.size,3,none⟩ a3).heap[d.heap.size]?=some (.cells #[a0,a1,a2,a3] 165 (0,0))):=by
     intro a0 a1 a2 a3;rw[ah (ah (ah (ah q9 _ _) _ _) _ _)];rfl
    clear kk bx d0 d1 d2 d3 t3 f0 f1 f2 f3 yf;obtain⟨g0,g1,g2,g3⟩:=jh q9;go_wp2
    go_roundg (b[w].Vh.length-(i+1))
    case measure=>omega
    case rel=>exact⟨i+1,c2,H7,(qf,qp),N+t.size,by omega,rfl,by go_num,ar,by omega,aT.out,a8.kept D7 (ai.out _ _ _ _) (by simp;omega) (by intro x a;simp;rintro rfl;exact m3 a),m4,kH K7 (by omega) _ _ _ _,(ai.out _ _ _ _).get q1 (by simp;omega),(ai.out _ _ _ _).get q2 (by simp;omega),cc.out _ _ _ _,m1,m2,m3⟩
  ·have t3:wr.cell? ⟨n.heap.size,3,none⟩=some (.slice AO b[w].Vh.length (k (11+2*w)).cap):=by rw[aa Y,q.out];rfl
   cases c:(g.1==0)
   ·have p:Hid (lK b w b[w]=([],g)):=by show _=_;unfold lK;rw[X.out,GA _ _ _ c];simp[uF,c]
    have l:(g.1 != 0)=true:=by simp[bne,c]
    clear X s
    go_upto_region 13 with fail
    go_region
    all_goals go_wp2
    all_goals exact QY (v:=.tuple #[.slice none 0 0,.agg #[.int .i64 g.1,.string g.2.file,.int .i64 g.2.line,.int .i64 g.2.col]]) (by simp[results,results138,go_sem,M,J,O,L]) rfl ⟨⟨none,0⟩,by rw[p.out];rfl,by rw[p.out];exact QZ _ _ _ _,by intro x a;simp[Hd.blk]at a,(kH KW (QR _) _ _ _ _).drew⟩
   ·have t4:wr.cell? ⟨n.heap.size,4,none⟩=some (.string b[w].fin.file):=by rw[aa Y,q.out];rfl
    have t5:wr.cell? ⟨n.heap.size,5,none⟩=some (.int .i64 b[w].fin.line):=by rw[aa Y,q.out];rfl
    have t6:wr.cell? ⟨n.heap.size,6,none⟩=some (.int .i64 b[w].fin.col):=by rw[aa Y,q.out];rfl
    have HE:Hid (lK b w b[w]=uF b[w].fin (cY,h)):=by show _=_;unfold lK;rw[X.out,NQ _ _ _ _ A c]
    have l:(g.1 != 0)=false:=by simp[bne,c]
    clear X s
    by_cases R:h.Vd=0
    ·have ca:¬((h.Vd:Int) > 0):=by omega
     by_cases P:h.steps.length=0
     ·have b6:((h.steps.length:Int)==0)=true:=by simp[P]
      have p:Hid (lK b w b[w]=([],(1,b[w].fin))):=by show _=_;rw[HE.out];simp[uF,cY,R,P]
      obtain⟨y,f⟩:∃y,y=(((wr.setCell ⟨d.heap.size,0,none⟩ (.int .i64 1)).setCell ⟨d.heap.size,1,none⟩ (.string b[w].fin.file)).setCell ⟨d.heap.size,2,none⟩ (.int .i64 b[w].fin.line)).setCell ⟨d.heap.size,3,none⟩ (.int .i64 b[w].fin.col):=⟨_,rfl⟩
      have k8:ab [d.heap.size] wr y:=by rw[f];exact ji _ _ _ _
      have K8:ab [] H y:=by rw[f];exact kH KW (by omega) _ _ _ _
      have z:y.heap[d.heap.size]?=some (.cells (Ec (1,b[w].fin)) 165 (0,0)):=by
       rw[f,ah (ah (ah (ah B9 _ _) _ _) _ _)];rfl
      have C:=k8.get B1 (by simp;omega);have C8:=a8.kept hC k8 (by simp;omega) (by intro x a;simp;rintro rfl;exact n3 a);have G:=hI f.symm;clear f k8
      go_upto_region 12 with fail
      rw[G.out];clear G f0 f1 f2 f3 yf M J O L yz af a5 ap a4 ad t3 t4 t5 t6 c l;obtain⟨f0,f1,f2,f3⟩:=jh z;have yf:=am z;obtain⟨M,J,O,L⟩:=da C;have yz:=am C
      go_upto_region 13 with fail
      go_region
      all_goals go_wp2
      all_goals exact QY (v:=.tuple #[.slice none 0 0,.agg #[.int .i64 1,.string b[w].fin.file,.int .i64 b[w].fin.line,.int .i64 b[w].fin.col]]) (by simp[results,results138,go_sem,M,J,O,L]) rfl ⟨⟨none,0⟩,by rw[p.out];rfl,by rw[p.out];exact QZ _ _ _ _,by intro x a;simp[Hd.blk]at a,(kH K8 (QR _) _ _ _ _).drew⟩
     ·have b6:((h.steps.length:Int)==0)=false:=Rh.2 (by omega)
      have p:Hid (lK b w b[w]=(h.steps,cY)):=by show _=_;rw[HE.out];simp[uF,cY,R,P]
      have bz:Hid (aw wr (u 2) (go h.steps)):=a8.own hC 2;have b4:Hid (∀x,(u 2).blk=some x->H.heap.size<=x/\x≠H.heap.size):=fun x a=>⟨ax x ⟨2,a⟩,fun e=>n1 ⟨2,e ▸ a⟩⟩
      clear P R;go_wp2
      exact QY (v:=.tuple #[.slice (u 2).ao h.steps.length (u 2).cap,.agg #[.int .i64 0,.string ⟨#[]⟩,.int .i64 0,.int .i64 0]]) (by simp[results,results138,go_sem,M,J,O,L]) rfl
       ⟨u 2,by rw[p.out];rfl,by rw[p.out];exact bz.out.Vg (fun x a=>(ji (r:=H.heap.size) _ _ _ _).block x (bz.out.lt a) (by simp;exact(b4.out x a).2)),fun x a=>(b4.out x a).1,kH KW (QR _) _ _ _ _⟩
    ·have ca:(h.Vd:Int) > 0:=by omega
     have p:Hid (lK b w b[w]=([],(4,b[w].fin))):=by show _=_;rw[HE.out];simp[uF,cY,R]
     obtain⟨y,f⟩:∃y,y=(((wr.setCell ⟨d.heap.size,0,none⟩ (.int .i64 4)).setCell ⟨d.heap.size,1,none⟩ (.string b[w].fin.file)).setCell ⟨d.heap.size,2,none⟩ (.int .i64 b[w].fin.line)).setCell ⟨d.heap.size,3,none⟩ (.int .i64 b[w].fin.col):=⟨_,rfl⟩
     have k8:ab [d.heap.size] wr y:=by rw[f];exact ji _ _ _ _
     have K8:ab [] H y:=by rw[f];exact kH KW (by omega) _ _ _ _
     have z:y.heap[d.heap.size]?=some (.cells (Ec (4,b[w].fin)) 165 (0,0)):=by
      rw[f,ah (ah (ah (ah B9 _ _) _ _) _ _)];rfl
     have C:=k8.get B1 (by simp;omega);have C8:=a8.kept hC k8 (by simp;omega) (by intro x a;simp;rintro rfl;exact n3 a);have G:=hI f.symm;clear f k8
     go_upto_region 10 with fail
     rw[G.out];clear G f0 f1 f2 f3 yf M J O L yz af a5 ap a4 ad t3 t4 t5 t6 c l;obtain⟨f0,f1,f2,f3⟩:=jh z;have yf:=am z;obtain⟨M,J,O,L⟩:=da C;have yz:=am C
     go_upto_region 13 with fail
     go_region
     all_goals go_wp2
     all_goals exact QY (v:=.tuple #[.slice none 0 0,.agg #[.int .i64 4,.string b[w].fin.file,.int .i64 b[w].fin.line,.int .i64 b[w].fin.col]]) (by simp[results,results138,go_sem,M,J,O,L]) rfl ⟨⟨none,0⟩,by rw[p.out];rfl,by rw[p.out];exact QZ _ _ _ _,by intro x a;simp[Hd.blk]at a,(kH K8 (QR _) _ _ _ _).drew⟩
def Aa(s:St):Bool :=
 match s.Vh with
 | []=>false
 | (t,_) :: _=>t.toList == [40]
def lx(l:List St)(a:Nat)(s:St):List nF×pA:=if Aa s=true then lK l a s else fL l a s.fin s.Vh []
theorem Jb(Y:dF H D I b k)(C:w<b.length)(Q:iH b)(S:yc b[w]) :
  Calls prog 100 #[.pointer (some ⟨D,I,none⟩),.int .i64 w] H fun e w'=>∃a:Hd,
   e=.returned (.tuple #[.slice a.ao (lx b w b[w]).1.length a.cap,gU (lx b w b[w]).2])/\aw w' a (go (lx b w b[w]).1)/\(∀x,a.blk=some x->H.heap.size<=x)/\ab [] H w':=by
 have ai:=Y.lt;have ax:=Q.prfs w C;obtain⟨B,G⟩:∃B,Hid ((k (11+2*w)).ao=B):=⟨_,rfl⟩
 obtain⟨W,P⟩:∃W,W=H.alloc (.cells #[.int .i64 0,.string ⟨#[]⟩,.int .i64 0,.int .i64 0] 165):=⟨_,rfl⟩
 have K:ab [] H W:=by rw[P];exact(ab.refl [] _).alloc _
 have BF:W.heap[H.heap.size]?=some (.cells bA 165 (0,0)):=by rw[P];exact QS _ _
 have HW:=hI P.symm;clear P;go_enter func100,ntmps100
 go_upto_region 1 with fail
 rw[HW.out];go_wp2_with fail;refine(a9 D I w b k _ (Y.Vb K) C).mono ?_;rintro e R ⟨rfl,j⟩;unfold ee;rw[G.out];obtain⟨l,f⟩:∃l,l=R.alloc (.cells #[.int .i64 b[w].kind,.string b[w].label,.slice (k (10+2*w)).ao b[w].U6.length (k (10+2*w)).cap,.slice B b[w].Vh.length (k (11+2*w)).cap,.string b[w].fin.file,.int .i64 b[w].fin.line,.int .i64 b[w].fin.col,.int .i64 b[w].til] 158):=⟨_,rfl⟩
 have E:=hI f.symm;have K2:ab [] H l:=by rw[f];exact(K.trans j).alloc _
 have BT:l.heap[R.heap.size]?=some (.cells #[.int .i64 b[w].kind,.string b[w].label,.slice (k (10+2*w)).ao b[w].U6.length (k (10+2*w)).cap,.slice B b[w].Vh.length (k (11+2*w)).cap,.string b[w].fin.file,.int .i64 b[w].fin.line,.int .i64 b[w].fin.col,.int .i64 b[w].til] 158 (0,0)):=by rw[f];exact QS _ _
 have U:l.heap[H.heap.size]?=some (.cells bA 165 (0,0)):=by rw[f];exact((ab.refl [] _).alloc _).get (j.get BF (by simp)) (by simp)
 have az:H.heap.size<R.heap.size:=by have:=ae (j.get BF (by simp));omega
 have al:=ae BT;clear f
 go_upto_region 2 with fail
 rw[E.out];clear HW E j BF K;have t3:l.cell? ⟨R.heap.size,3,none⟩=some (.slice B b[w].Vh.length (k (11+2*w)).cap):=by rw[aa BT];rfl
 have i:=Y.Vb K2;have g:=i.Vn.prfs w b[w] (QP C)
 have d:Hid (∀(c:World) (fl:pA) (a:Hd) (M:List nF),ab [] l c->(∀x,a.blk=some x->l.heap.size<=x)->aw c a (go M)->lx b w b[w]=(M,fl) ->
   c.frozen? ⟨H.heap.size,0,none⟩=false/\c.frozen? ⟨H.heap.size,1,none⟩=false/\c.frozen? ⟨H.heap.size,2,none⟩=false/\c.frozen? ⟨H.heap.size,3,none⟩=false /\
   c.cell? ⟨H.heap.size,0,none⟩=some (.int .i64 0)/\c.cell? ⟨H.heap.size,1,none⟩=some (.string ⟨#[]⟩)/\c.cell? ⟨H.heap.size,2,none⟩=some (.int .i64 0)/\c.cell? ⟨H.heap.size,3,none⟩=some (.int .i64 0) /\
   ∀Z X T a3,Hid (ab [] H ((((c.setCell ⟨H.heap.size,0,none⟩ Z).setCell ⟨H.heap.size,1,none⟩ X).setCell ⟨H.heap.size,2,none⟩ T).setCell ⟨H.heap.size,3,none⟩ a3)/\aw ((((c.setCell ⟨H.heap.size,0,none⟩ Z).setCell ⟨H.heap.size,1,none⟩ X).setCell ⟨H.heap.size,2,none⟩ T).setCell ⟨H.heap.size,3,none⟩ a3) a (go M))):=by
  intro c fl a M q ac L he;have B9:=q.get U (by simp);obtain⟨s,y,u,z⟩:=da B9;have O:=am B9;refine⟨O 0,O 1,O 2,O 3,s,y,u,z,fun Z X T a3=>⟨kH (K2.trans q) (QR _) _ _ _ _,L.Vg (fun x o=>(ji (r:=H.heap.size) _ _ _ _).block x (L.lt o) (by simp;rintro rfl;have:=ac _ o;omega))⟩⟩
 have A:=K2.size
 rcases hpr:b[w].Vh with _ | ⟨⟨t,p⟩,r⟩
 ·have J:b[w].Vh.length=0:=by rw[hpr];rfl
  have h:Hid (lx b w b[w]=fL b w b[w].fin b[w].Vh []):=by show _=_;simp[lx,Aa,hpr]
  rw[J]at t3;have ar:¬((0:Nat):Int) > 0:=by omega
  clear hpr g;go_wp2_with (go_at_call 139;refine(pS D I w b k _ i C Q).mono ?_;rintro e c ⟨a,rfl,F,n,q⟩;obtain⟨y0,y1,y2,y3,s,y,u,z,m⟩:=d.out c _ a _ q n F h.out;unfold gU)
  exact QY (v:=.tuple #[.slice a.ao (fL b w b[w].fin b[w].Vh []).1.length a.cap,gU (fL b w b[w].fin b[w].Vh []).2]) (by simp[results,results100,go_sem,s,y,u,z,gU]) rfl
   ⟨a,by rw[h.out],by rw[h.out];exact(m _ _ _ _).out.2,fun x o=>Q3 A (n x o),(m _ _ _ _).out.1⟩
 ·have J:b[w].Vh.length=r.length+1:=by rw[hpr];rfl
  obtain⟨gp,N,af,V,d0,-,-,-⟩:=g.word 0 (by omega);obtain rfl:B=some ⟨gp,0,none⟩:=G.out.symm.trans N;have an:gp<l.heap.size:=g.lt (by unfold Hd.blk;rw[N];rfl);have ap:((b[w].Vh.length:Int) > 0):=by omega
  have ad:(0:Int)<b[w].Vh.length:=by omega
  have ag:0<b[w].Vh.length:=by omega
  simp only[hpr,List.getElem_cons_zero]at d0
  cases hc:(t.toList == [40])
  ·have h:Hid (lx b w b[w]=fL b w b[w].fin b[w].Vh []):=by show _=_;simp[lx,Aa,hpr,hc]
   clear hpr g N;go_wp2_with (go_at_call 139;refine(pS D I w b k _ i C Q).mono ?_;rintro e c ⟨a,rfl,F,n,q⟩;obtain⟨y0,y1,y2,y3,s,y,u,z,m⟩:=d.out c _ a _ q n F h.out;unfold gU)
   exact QY (v:=.tuple #[.slice a.ao (fL b w b[w].fin b[w].Vh []).1.length a.cap,gU (fL b w b[w].fin b[w].Vh []).2]) (by simp[results,results100,go_sem,s,y,u,z,gU]) rfl
    ⟨a,by rw[h.out],by rw[h.out];exact(m _ _ _ _).out.2,fun x o=>Q3 A (n x o),(m _ _ _ _).out.1⟩
  ·have h:Hid (lx b w b[w]=lK b w b[w]):=by show _=_;simp[lx,Aa,hpr,hc]
   clear hpr g N;go_wp2_with (go_at_call 138;refine(rJ D I w b k _ i C Q S).mono ?_;rintro e c ⟨a,rfl,F,n,q⟩;obtain⟨y0,y1,y2,y3,s,y,u,z,m⟩:=d.out c _ a _ q n F h.out;unfold gU)
   exact QY (v:=.tuple #[.slice a.ao (lK b w b[w]).1.length a.cap,gU (lK b w b[w]).2]) (by simp[results,results100,go_sem,s,y,u,z,gU]) rfl
    ⟨a,by rw[h.out],by rw[h.out];exact(m _ _ _ _).out.2,fun x o=>Q3 A (n x o),(m _ _ _ _).out.1⟩
theorem Lu:(prog.info? 61).map (fun i=>(i.zero,i.size,i.bytes))=some (some (.slice none 0 0),1,24):=by kernel_rfl
structure Ex where
 hd:Hd
 xs:List ByteArray
def v6(e:Ex):Value:=.slice e.hd.ao e.xs.length e.hd.cap
def By(l:List Ex):List Value:=l.map v6
def gn(l:List Ex):dN:=⟨61,1,l.length,By l⟩
theorem ug(l:List Ex)(e:Ex):(⟨(gn l).e,(gn l).size,(gn l).n+1,(gn l).xs++[v6 e]⟩:dN)=gn (l++[e]):=by simp[gn,By]
theorem sB(l:List Ex)(k:Nat)(h:k<l.length):(By l)[k]?=some (v6 l[k]):=by simp[By,h]
theorem jT.keptP{P:Nat->Prop}(v:jT S z6 y)(k:eK P S o)(d:∀x,z6.blk=some x->¬P x):jT o z6 y:=by
 rcases v with v | ⟨g,b,a,t,c,e,f⟩
 ·exact Q1 v
 ·exact QV ⟨g,b,a,t,c,k.get e (d g (by unfold Hd.blk;rw[c];rfl)),f⟩
structure AW(w:World)(b:Nat)(H:Nat->Hd)(e:Ex):Prop where
 view:jT w e.hd e.xs
 adr:∃ad,e.hd.ao=some ad
 far:∀x,e.hd.blk=some x->x<w.heap.size/\x≠b/\¬f9 H x
theorem AW.turned{f:Nat->Hd}{e:Ex}(h:AW S n d e)(t:aA n S d o f):AW o n f e:=by
 refine⟨h.view.keptP t.1 (fun x c=>?_),h.adr,fun x c=>?_⟩
 ·obtain⟨_,b,a⟩:=h.far x c
  rintro (e | e)
  ·exact b e
  ·exact a e
 ·obtain⟨g,b,a⟩:=h.far x c
  exact⟨QX g t.1.size,b,t.fresh x g a⟩
theorem AW.Vb{e:Ex}(h:AW S n d e)(k:ab [] S o):AW o n d e :=
 ⟨h.view.Vb k,h.adr,fun x a=>⟨QX (h.far x a).1 k.size,(h.far x a).2⟩⟩
def pW(vs:List ByteArray)(be:List Ex):Nat->dN
 | 0=>aB vs
 | 1=>gn be
 | _+2=>aB []
def oU(vs:List ByteArray)(be:List Ex)(H:Nat->Hd):List Value:=[.slice (H 0).ao vs.length (H 0).cap,.slice (H 1).ao be.length (H 1).cap]
structure ma(w:World)(b:Nat)(vs:List ByteArray)(be:List Ex)(H:Nat->Hd):Prop where
 bag:a8 w b 343 (oU vs be H) (pW vs be) H
 len:be.length=vs.length
 exs:∀e∈be,AW w b H e
theorem ma.Vb{a:List Ex}(h:ma S n y a d)(k:ab [] S o):ma o n y a d:=⟨h.bag.Vb k,h.len,fun e b=>(h.exs e b).Vb k⟩
theorem ma.cells{a:List Ex}(h:ma S n y a d) :
  S.cell? ⟨n,0,none⟩=some (.slice (d 0).ao y.length (d 0).cap)/\S.cell? ⟨n,1,none⟩=some (.slice (d 1).ao a.length (d 1).cap):=⟨h.bag.cell 0,h.bag.cell 1⟩
def Dv(a b:List ByteArray):Bool:=a.map (·.toList)==b.map (·.toList)
theorem Nm(h:y.length≠N.length):Dv y N=false:=by
 unfold Dv;rw[Rh];intro e;have:=congrArg List.length e;simp at this;exact h this
theorem OS(a:f<y.length)(b:f<N.length)(h:(y[f].toList==N[f].toList)=false):Dv y N=false:=by
 unfold Dv;rw[Rh]at h ⊢;intro e;have:=congrArg (fun l=>l[f]?) e;simp[a,b]at this;exact h this
theorem Gf(c:y.length=N.length)(h:∀k (a:k<y.length) (b:k<N.length),(y[k].toList==N[k].toList)=true):Dv y N=true:=by
 unfold Dv;rw[Ty]
 apply UN
 ·simpa using c
 ·intro k a b
  simp at a b ⊢;exact Ty.1 (h k a b)
theorem yo(V:jT H z5 T)(Z:jT H i l)(K:T.length<=1073741824)(G:l.length<=1073741824) :
  Calls prog 211 #[.slice z5.ao T.length z5.cap,.slice i.ao l.length i.cap] H fun e N=>e=.returned (.bool (Dv T l))/\ab [] H N:=by
 obtain⟨M,y⟩:=z5;obtain⟨P,E⟩:=i
 by_cases d:T.length=l.length
 ·have U:((T.length:Int) != l.length)=false:=by simp[d]
  by_cases F:T.length=0
  ·have c:Hid (Dv T l=true):=Gf d (fun k z5 i=>by omega)
   have O:¬(0:Int)<T.length:=by omega
   go_enter func211,ntmps211;go_wp2;refine SZ 1 ?_;rw[Tr];go_wp2;go_ret;exact⟨aD c.out.symm,ab.refl _ _⟩
  ·rcases V with rfl | ⟨g,r,L,t,A,x,v,X,I⟩
   ·simp at F
   rcases Z with rfl | ⟨Y,h,z,t',D,C,w,Q,R⟩
   ·simp at d;simp[d]at F
   simp only at A D X I Q R;subst A;subst D;go_enter func211,ntmps211;go_wp2
   go_loopg [5] T.length (fun gk a wr=>∃k:Nat,k<=T.length/\gk=T.length-k/\a=.int .i64 k/\Hid (∀a (n:a<T.length) (q:a<l.length),a<k->(T[a].toList==l[a].toList)=true)/\ab [] H wr)
   case atStart=>exact⟨0,by omega,by omega,rfl,fun a _ _ W=>by omega,ab.refl _ _⟩
   case round =>
    obtain⟨k,hk,hg,rfl,b,p⟩:=hrel
    by_cases o:k<T.length
    ·have f:k<l.length:=by omega
     have c1:wr.cell? ⟨g,r+k,none⟩=some (.string T[k]):=(aa (p.get x (by simp)) (r+k)).trans (v k T[k] (QP o));have c2:wr.cell? ⟨Y,h+k,none⟩=some (.string l[k]):=(aa (p.get C (by simp)) (h+k)).trans (w k l[k] (QP f));have J:(k:Int)<T.length:=by omega
     have B:(k:Int)<l.length:=by omega
     have j:=hI (OS k o f)
     have m:Hid ((T[k].toList==l[k].toList)=true->∀a (n:a<T.length) (q:a<l.length),a<k+1->(T[a].toList==l[a].toList)=true):=by
      intro S a n q W
      by_cases e:a=k
      ·subst e;exact S
      ·exact b.out a n q (by omega)
     clear b v w x C
     cases s:(T[k].toList==l[k].toList)
     ·have c:=hI (j.out s)
      have u:(T[k].toList != l[k].toList)=true:=by simp[bne,s]
      clear j m d
      go_upto_region 6 with fail
      go_quiet (fail)
      go_wp2;go_ret;exact⟨aD c.out.symm,p.drewN _⟩
     ·have c:=hI (m.out s)
      have u:(T[k].toList != l[k].toList)=false:=by simp[bne,s]
      clear j m d
      go_upto_region 6 with fail
      go_quiet (fail)
      go_wp2
      go_roundg (T.length-(k+1))
      case measure=>omega
      case rel=>exact⟨k+1,by omega,rfl,by go_num,c.out,p.drewN _⟩
    ·have c:Hid (Dv T l=true):=Gf d (fun a n q=>b.out a n q (by omega))
     clear b v w;go_wp2;go_ret;exact⟨aD c.out.symm,p⟩
 ·have c:Hid (Dv T l=false):=Nm d
  have U:((T.length:Int) != l.length)=true:=by simp[bne];omega
  go_enter func211,ntmps211;go_wp2;go_ret;exact⟨aD c.out.symm,ab.refl _ _⟩
theorem JK(r:List Ex)(H:Nat->Hd)(x:ByteArray)(d:World)(h:ma d w l r H)(C:l.length<=1073741824) :
  Calls prog 278 #[.pointer (some ⟨w,0,none⟩),.string x] d fun e v=>e=.returned (.int .i64 (nB (pu l x)))/\v=d:=by
 obtain⟨A,s⟩:=h.cells;have j:=h.len;have b:aw d (H 0) (aB l):=h.bag.own 0;rw[j]at s;go_enter func278,ntmps278;go_wp2
 go_loopg [5] l.length (fun g i wr=>∃k:Nat,k<=l.length/\g=l.length-k/\i=.int .i64 k/\Hid (∀i,i<k->((l.getD i ⟨#[]⟩).toList==x.toList)=false)/\wr=d)
 case atStart=>exact⟨0,by omega,by omega,rfl,fun i p=>by omega,rfl⟩
 case round =>
  obtain⟨k,D,F,rfl,a,rfl⟩:=hrel
  by_cases c:k<l.length
  ·rcases b.Vm with ⟨_,B,_⟩ | ⟨g,t,n,-,z,-⟩
   ·have:l.length=0:=B
    omega
   ·have E:=b.cell n k (.string l[k]) (tC l k c)
    rw[n]at A;have f:=hI (qm l k c);have q:l.length<=(H 0).cap:=z;generalize l[k]=y at *
    cases o:(y.toList==x.toList)
    ·have u:Hid (∀i,i<k+1->((l.getD i ⟨#[]⟩).toList==x.toList)=false):=by
      intro i p
      by_cases e:i=k
      ·subst e;rw[f.out];exact o
      ·exact a.out i (by omega)
     clear f h b;go_wp2
     go_roundg (l.length-(k+1))
     case measure=>omega
     case rel=>exact⟨k+1,by omega,rfl,by go_num,u,rfl⟩
    ·have m:Hid (pu l x=some k):=nV c (by rw[f.out];exact o) a.out
     clear f h b;go_wp2;go_ret;exact⟨QN (by rw[m.out];rfl),rfl⟩
  ·have m:Hid (pu l x=none):=mI (fun i p=>a.out i (by omega))
   clear h b;go_wp2;go_ret;exact⟨QN (by rw[m.out];rfl),rfl⟩
theorem tE{P:Program}{w:Array Oper}{k:List Oper}{o:Oper}{a:Act}{Q:Exit->Act->World->Prop}(Y:o.guard=none)(s x:Operand)(t:TypeId)(E:o.op=Op.call { callee:=Callee.builtin Builtin.append,args:=#[s,x],argTypes:=#[t,t] })(i:TypeInfo)(z:Value)(d:Nat)(h:Hd)(r:dN)(V:P.underlying t=some (.slice r.e))(W:P.info? r.e=some i)(N:i.zero=some z)(K:i.size=r.size)(S:i.bytes=d)(J:z.cells.size=r.size)(O:0<r.size)(X:a.eval s=.slice h.ao r.n h.cap)(q:aw H h r)(G:Addr)(m c:Nat)(b:List Value)(L:a.eval x=.slice (some G) m c)(U:b.length=m*r.size)(T:∀j u,b[j]?=some u->H.cell? (G.add j)=some u)(B:∀u∈b,u.oneCell'=true)(R:r.n+m<=maxLen)(M:(r.n+m)*d<=140737488355328)(I:∀f p,aw p f ⟨r.e,r.size,r.n+m,r.xs++b⟩->H.grownBy p h.blk->(f.blk=h.blk∨f.blk=some H.heap.size)->wpList P w Q k (a.put o.dst (.slice f.ao (r.n+m) f.cap)) p) :
  wpList P w Q (o :: k) a H:=by
 refine wpList_append_own_at H Y s x t E 0 r.e i z r.size d V W N K S J O (.slice h.ao r.n h.cap) r.n r.xs X q G m c b L U T B R M (Ro _) ?_;intro v' p C F Z y;rw[Ar]at F y
 rcases C.2 with ⟨A,v⟩ | ⟨g,l,D,A,v⟩
 ·have:=I ⟨none,0⟩ p ⟨C.1,Q1 ⟨by rw[v],v⟩⟩ F (by rw[A]at y;exact y)
  rw[A];rw[v]at this;exact this
 ·have:=I ⟨some ⟨g,0,none⟩,l⟩ p ⟨C.1,QV ⟨g,l,D,rfl,v⟩⟩ F (by rw[A]at y;exact y)
  rw[A];exact this
def G8(vs:List ByteArray)(bs:List (List ByteArray))(x:ByteArray):List ByteArray:=match pu vs x with | none=>[x] | some i=>bs.getD i []
def ly(vs:List ByteArray)(bs:List (List ByteArray)):List ByteArray->List ByteArray->List ByteArray
 | [],acc=>acc
 | x :: r,acc=>if acc.length<=32 then ly vs bs r (acc++G8 vs bs x) else acc
def nY(vs:List ByteArray)(bs:List (List ByteArray))(sy:List ByteArray):List ByteArray:=ly vs bs sy []
theorem N4(b:f<T.length)(a:l.length<=32):ly x L (T.drop f) l=ly x L (T.drop (f+1)) (l++G8 x L T[f]):=by
 rw[Rf b,ly,QW a]
theorem Jw(a:¬l.length<=32):ly x L T l=l:=by
 cases T with
 | nil=>rfl
 | cons b r=>rw[ly,QT a]
theorem Mg(a:¬f<T.length):ly x L (T.drop f) l=l:=by
 rw[R8 (by omega)];rfl
theorem KJ(a:ByteArray)(M:Nat)(c:1<=M)(h:∀b∈L,b.length<=M):(G8 x L a).length<=M:=by
 unfold G8
 split
 ·simpa using c
 ·next i _ =>
  rw[QQ]
  cases e:L[i]? with
  | none=>simp
  | some b=>simpa using h b (R4 e)
theorem E5(i:1<=f)(h:∀b∈L,b.length<=f)(d a:List ByteArray)(c:a.length<=32+f):(ly x L d a).length<=32+f:=by
 induction d generalizing a with
 | nil=>exact c
 | cons g r e =>
  rw[ly]
  split
  ·have:=KJ x L g f i h
   exact e _ (by simp;omega)
  ·exact c
theorem Jv(c:1<=f)(h:∀b∈L,b.length<=f)(a:List ByteArray):(nY x L a).length<=32+f:=E5 x L f c h a [] (by simp)
theorem JE:(⟨(aB T).e,(aB T).size,(aB T).n+l.length,(aB T).xs++cN l⟩:dN)=aB (T++l):=by simp[aB,cN]
theorem jT.cells{d:Addr}(v:jT S z6 y)(e:z6.ao=some d):∀j u,(cN y)[j]?=some u->S.cell? (d.add j)=some u:=by
 intro j u h
 rcases v with rfl | ⟨g,a,k,t,f,l,m,-⟩
 ·simp[cN]at h
 ·rw[e]at f
  cases f
  have b:(y[j]?).map Value.string=some u:=by simpa [cN] using h
  cases c:y[j]? with
  | none=>rw[c]at b;cases b
  | some x =>
   rw[c]at b;cases b
   have:(⟨g,a,none⟩:Addr).add j=⟨g,a+j,none⟩:=by
    simp only[Addr.add]
    split
    ·next i=>subst i;rfl
    ·rfl
   rw[this,aa l];exact m j x c
theorem pT(d:List Ex)(H:Nat->Hd)(hy:Hd)(f:List ByteArray)(A:World)(h:ma A w l d H)(hl:l.length<=10000)(ai:∀e∈d,e.xs.length<=10000)(hv:jT A hy f)(al:f.length<=10000) :
  Calls prog 274 #[.pointer (some ⟨w,0,none⟩),.slice hy.ao f.length hy.cap] A fun e w'=>∃o:Hd,
   e=.returned (.slice o.ao (nY l (d.map Ex.xs) f).length o.cap)/\aw w' o (aB (nY l (d.map Ex.xs) f))/\(∀x,o.blk=some x->A.heap.size<=x)/\ab [] A w':=by
 obtain⟨i0,hi,M,P,Y⟩:=Re js;obtain⟨ao,aT⟩:=hy
 rcases hv with rfl | ⟨g,U,aS,t,e1,e2,e3,e4,e5⟩
 ·clear al
  go_enter func274,ntmps274;go_wp2;refine SZ 1 ?_;rw[Tr];go_wp2;go_ret;exact⟨⟨none,0⟩,rfl,QZ _ _ _ _,by intro x s;simp[Hd.blk]at s,ab.refl _ _⟩
 simp only at e1 e4 e5;subst e1;obtain⟨R,HR⟩:∃R,Hid (R=nY l (d.map Ex.xs) f):=⟨_,rfl⟩
 rw[<-HR.out];go_enter func274,ntmps274;go_wp2
 go_loopg [5,6] f.length (fun gk sv i wr=>∃(k:Nat) (o:Hd) (a:List ByteArray),k<=f.length/\gk=f.length-k/\i=.int .i64 k/\sv=.slice o.ao a.length o.cap/\a.length<=10032/\Hid (R=ly l (d.map Ex.xs) (f.drop k) a)/\aw wr o (aB a)/\(∀x,o.blk=some x->A.heap.size<=x)/\ab [] A wr)
 case atStart=>exact⟨0,⟨none,0⟩,[],by omega,by omega,rfl,rfl,by simp,HR.out,QZ _ _ _ _,by intro x s;simp[Hd.blk]at s,ab.refl _ _⟩
 case round =>
  obtain⟨k,o,a,hk,hg,rfl,rfl,a2,r,S,L,J⟩:=hrel;have T:=h.Vb J
  by_cases D:k<f.length
  ·by_cases ha:a.length<=32
   ·have ag:(a.length:Int)<=32:=by omega
    have c2:wr.cell? ⟨g,U+k,none⟩=some (.string f[k]):=(aa (J.get e2 (by simp)) (U+k)).trans (e3 k f[k] (QP D));have B:=hI (r.out.trans (N4 l (d.map Ex.xs) f a k D ha));have Z:=hI (fun w1 h1=>JK w l d H f[k] w1 h1 (by omega));clear r e3;generalize f[k]=y at *
    rcases hp:pu l y with _ | p
    ·have c:Hid (R=ly l (d.map Ex.xs) (f.drop (k+1)) (a++[y])):=by show _=_;rw[B.out];simp[G8,hp]
     have V:=S.Vg (fun x s=>((ab.refl [] wr).alloc (.cells #[.string y] 9)).block x (S.lt s) (by simp));clear B
     go_upto_region 7 with (go_at_call 278;refine(Z.out _ T).mono ?_;rintro e w3 ⟨rfl,K⟩;rw[K,hp];simp only[nB])
     go_wp2_with (at_builtin;refine aM _ rfl (.tmp 27) (.tmp 32) 61 rfl i0 (.string ⟨#[]⟩) 16 o (aB a) underlying61 hi M P Y rfl Rc rfl (by exact V) ⟨_,0,none⟩ 1 1 [.string y] rfl rfl ?d1 ?d2 Rc ?d3 ?d4 ?_)
     case d1=>intro j u hj;match j,hj with | 0,hj=>simp at hj;subst hj;simp[Addr.add]
     case d2=>intro u W;simp at W;subst W;rfl
     case d3=>simp only[aB];unfold maxLen;omega
     case d4=>simp only[aB];omega
     intro g5 N w5 v m b;rw[dr a y]at v;have Q:=J.alloc (.cells #[.string y] 9);have F:=Q.grown m L
     have af:A.heap.size<=g5:=by
      rcases b with e | e
      ·exact L g5 e
      ·have:=Q.size;simp at e this;omega
     have E:Hid ((aB a).n+1=(a++[y]).length):=by show _=_;simp[aB]
     rw[E.out];clear m b V;go_wp2
     go_roundg (f.length-(k+1))
     case measure=>omega
     case rel=>exact⟨k+1,⟨some ⟨g5,0,none⟩,N⟩,a++[y],by omega,rfl,by go_num,rfl,by simp;omega,c.out,v,by intro x s;simp[Hd.blk]at s;omega,F⟩
    ·have a1:p<l.length:=by
      have:=Rz hp;simpa using this
     have a0:=h.len;have z:p<d.length:=by omega
     have c:Hid (R=ly l (d.map Ex.xs) (f.drop (k+1)) (a++d[p].xs)):=by show _=_;rw[B.out];simp[G8,hp,z]
     have G:=T.exs d[p] (Rb z);have an:=ai d[p] (Rb z);obtain⟨ad,I⟩:=G.adr;have X:=G.view.cells I;obtain⟨s0,s1⟩:=T.cells;have C:aw wr (H 1) (gn d):=T.bag.own 1
     rcases C.Vm with ⟨_,h0,_⟩ | ⟨gb,az,eb,-,ap,-⟩
     ·have:d.length=0:=h0
      omega
     have cb:=C.cell eb p (v6 d[p]) (sB d p z);have ax:d.length<=(H 1).cap:=ap;rw[eb]at s1;unfold v6 at cb;rw[I]at cb;have ac:=hI X;clear B G I X C eb;generalize d[p]=ex at *;obtain⟨ar,q⟩:=ex;simp only at cb an c ac
     go_upto_region 8 with (go_at_call 278;refine(Z.out _ T).mono ?_;rintro e w3 ⟨rfl,K⟩;rw[K,hp];simp only[nB])
     go_wp2_with (at_builtin;refine tE _ rfl (.tmp 34) (.tmp 41) 61 rfl i0 (.string ⟨#[]⟩) 16 o (aB a) underlying61 hi M P Y rfl Rc rfl (by exact S) ad q.length ar.cap (cN q) rfl (by simp[cN,aB]) ac.out ?d2 ?d3 ?d4 ?_)
     case d2=>intro u W;simp[cN]at W;obtain⟨_,_,rfl⟩:=W;rfl
     case d3=>simp only[aB];unfold maxLen;omega
     case d4=>simp only[aB];omega
     intro O w5 v m b;rw[JE a q]at v;have F:=J.grown m L
     have af:∀x,O.blk=some x->A.heap.size<=x:=by
      intro x s
      rcases b with e | e
      ·exact L x (e ▸ s)
      ·rw[e]at s;cases s;exact J.size
     have E:Hid ((aB a).n+q.length=(a++q).length):=by show _=_;simp[aB]
     rw[E.out];clear m b;go_wp2
     go_roundg (f.length-(k+1))
     case measure=>omega
     case rel=>exact⟨k+1,O,a++q,by omega,rfl,by go_num,rfl,by simp;omega,c.out,v,af,F⟩
   ·have ag:¬(a.length:Int)<=32:=by omega
    have c:Hid (a=R):=(r.out.trans (Jw _ _ _ _ ha)).symm;clear r e3;go_wp2;go_ret;exact⟨o,by rw[<-c.out];rfl,by rw[<-c.out];exact S,L,J⟩
  ·have c:Hid (a=R):=(r.out.trans (Mg _ _ _ _ _ D)).symm
   clear r e3;go_wp2;go_ret;exact⟨o,by rw[<-c.out];rfl,by rw[<-c.out];exact S,L,J⟩
def mW(s:St)(e:List ByteArray)(S:List ByteArray×List (List ByteArray)):Int×List ByteArray×List (List ByteArray) :=
 if(s.kind==3)=true then(if Dv (nY S.1 S.2 s.U6) e=true then(0,S) else(8,S))
 else match e with
  | []=>(7,S)
  | x :: r=>if(x.toList==(iz s).toList)=true then(0,S.1++[aL s],S.2++[r]) else(7,S)
structure rd(w:World)(b:Nat)(H:Nat->Hd)(h:Hd)(l:List ByteArray):Prop where
 view:jT w h l
 far:∀x,h.blk=some x->x<w.heap.size/\x≠b/\¬f9 H x
theorem rd.Vb(f:rd S n d z6 y)(k:ab [] S o):rd o n d z6 y :=
 ⟨f.view.Vb k,fun x a=>⟨QX (f.far x a).1 k.size,(f.far x a).2⟩⟩
def jb(g off cap:Nat)(r:List ByteArray):Ex:=⟨⟨if cap=1 then some ⟨g,off,none⟩ else some ⟨g,off+1,none⟩,cap-1⟩,r⟩
theorem MC:(jb D I w l).hd.blk=some D:=by unfold jb Hd.blk;simp only;split <;> rfl
theorem Og{x:ByteArray}(h:rd S n d ⟨some ⟨a,g,none⟩,f⟩ (x :: y)):AW S n d (jb a g f y):=by
 have r:(jb a g f y).hd.blk=some a:=by unfold jb Hd.blk;simp only;split <;> rfl
 refine⟨?_,?_,fun e b=>h.far e (by rw[r]at b;exact b)⟩
 ·by_cases i:y=[]
  ·subst i;exact Q1 rfl
  ·rcases h.view with s | ⟨u,k,c,t,p,m,o,q,l⟩
   ·cases s
   ·cases p
    have v:0<y.length:=TU.2 i;simp only[List.length_cons]at q;refine QV ⟨a,g+1,c,t,by simp only[jb];rw[QT (by omega)],m,fun j e b=>?_,by simp only[jb];omega,by simp only[jb]at l ⊢;omega⟩;have:=o (j+1) e (by simpa [jb] using b);rw[show g+1+j=g+(j+1) by omega];exact this
 ·unfold jb
  simp only
  split
  ·exact⟨_,rfl⟩
  ·exact⟨_,rfl⟩
theorem Nr(a:List Ex)(H:Nat->Hd)(s:St)(o z P:Hd)(F:List ByteArray)(c:World)(h:ma c w l a H)(hl:l.length<=9999)(Z:∀e∈a,e.xs.length<=10000)(hs:jT c o s.U6)(ax:s.U6.length<=10000)(hx:rd c w H P F)(bs:F.length<=10000) :
  Calls prog 272 #[.pointer (some ⟨w,0,none⟩),ee s o z,.slice P.ao F.length P.cap] c fun e f=>∃(T:List Ex) (H':Nat->Hd),
   e=.returned (.int .i64 (mW s F (l,a.map Ex.xs)).1)/\ma f w (mW s F (l,a.map Ex.xs)).2.1 T H'/\T.map Ex.xs=(mW s F (l,a.map Ex.xs)).2.2/\aA w c H f H'/\∀e∈T,e∈a∨e.hd.blk=P.blk:=by
 obtain⟨i0,hi,ar,aS,bc⟩:=Re js;obtain⟨i1,az,a2,a4,bg⟩:=Re Lu;have bw:a.length<=9999:=by have:=h.len;omega
 unfold ee;obtain⟨W,hW⟩:∃W,W=c.alloc (.cells #[.int .i64 s.kind,.string s.label,.slice o.ao s.U6.length o.cap,.slice z.ao s.Vh.length z.cap,.string s.fin.file,.int .i64 s.fin.line,.int .i64 s.fin.col,.int .i64 s.til] 158):=⟨_,rfl⟩
 have K:ab [] c W:=by rw[hW];exact(ab.refl [] _).alloc _
 have B:W.heap[c.heap.size]?=some (.cells #[.int .i64 s.kind,.string s.label,.slice o.ao s.U6.length o.cap,.slice z.ao s.Vh.length z.cap,.string s.fin.file,.int .i64 s.fin.line,.int .i64 s.fin.col,.int .i64 s.til] 158 (0,0)):=by rw[hW];exact QS _ _
 have HW:=hI hW.symm;have u0:W.cell? ⟨c.heap.size,0,none⟩=some (.int .i64 s.kind):=by rw[aa B];rfl
 have u1:W.cell? ⟨c.heap.size,1,none⟩=some (.string s.label):=by rw[aa B];rfl
 have u2:W.cell? ⟨c.heap.size,2,none⟩=some (.slice o.ao s.U6.length o.cap):=by rw[aa B];rfl
 have u3:W.cell? ⟨c.heap.size,3,none⟩=some (.slice z.ao s.Vh.length z.cap):=by rw[aa B];rfl
 have u4:W.cell? ⟨c.heap.size,4,none⟩=some (.string s.fin.file):=by rw[aa B];rfl
 have u5:W.cell? ⟨c.heap.size,5,none⟩=some (.int .i64 s.fin.line):=by rw[aa B];rfl
 have u6:W.cell? ⟨c.heap.size,6,none⟩=some (.int .i64 s.fin.col):=by rw[aa B];rfl
 have u7:W.cell? ⟨c.heap.size,7,none⟩=some (.int .i64 s.til):=by rw[aa B];rfl
 have V:=h.Vb K;have L:=hs.Vb K;have al:=hx.Vb K;clear hW
 cases N:(s.kind==3)
 ·rcases F with _ | ⟨x,r⟩
  ·have v:Hid (mW s [] (l,a.map Ex.xs)=(7,l,a.map Ex.xs)):=by show _=_;simp[mW,N]
   clear u1 u2 u3 u4 u5 u6 u7;go_enter func272,ntmps272
   go_upto_region 1 with fail
   rw[HW.out]
   go_upto_region 5 with fail
   go_quiet (fail)
   go_wp2;go_ret;exact⟨a,H,QN (by rw[v.out]),by rw[v.out];exact V.Vb ((ab.refl [] _).drewN _),by rw[v.out],(aA.refl _ _ _).Vb (K.drewN _),fun _ q=>Q1 q⟩
  ·obtain⟨bv,b⟩:=P
   rcases al.view with ai | ⟨g,d,bl,t,e1,e2,e3,e4,e5⟩
   ·cases ai
   simp only at e1 e4 e5;subst e1;have aT:¬((r.length:Int)+1==0)=true:=by simp;omega
   have HN:Hid ((x :: r).length=r.length+1):=rfl;have bk:(0:Int)<(r.length:Int)+1:=by omega
   have bj:(1:Int)<=(r.length:Int)+1:=by omega
   rw[HN.out]at *;have cx:W.cell? ⟨g,d,none⟩=some (.string x):=by have:=(aa e2 d).trans (by simpa using e3 0 x rfl);exact this
   have bo:=ae e2;have TC:=AI s o z;unfold ee at TC;have ad:=hI TC
   have HC:Hid (∀f,ab [] W.drew f->f.cell? ⟨g,d,none⟩=some (.string x)/\f.cell? ⟨c.heap.size,0,none⟩=some (.int .i64 s.kind)/\f.cell? ⟨c.heap.size,1,none⟩=some (.string s.label)/\f.cell? ⟨c.heap.size,2,none⟩=some (.slice o.ao s.U6.length o.cap)/\f.cell? ⟨c.heap.size,3,none⟩=some (.slice z.ao s.Vh.length z.cap)/\f.cell? ⟨c.heap.size,4,none⟩=some (.string s.fin.file)/\f.cell? ⟨c.heap.size,5,none⟩=some (.int .i64 s.fin.line)/\f.cell? ⟨c.heap.size,6,none⟩=some (.int .i64 s.fin.col)/\f.cell? ⟨c.heap.size,7,none⟩=some (.int .i64 s.til)):=by
    intro f k;have q:=k.get (show W.drew.heap[c.heap.size]?=_ from B) (by simp);have q2:=k.get (show W.drew.heap[g]?=_ from e2) (by simp);refine⟨(aa q2 d).trans (by simpa using e3 0 x rfl),?_,?_,?_,?_,?_,?_,?_,?_⟩ <;> (rw[aa q];rfl)
   clear TC e3;go_enter func272,ntmps272
   go_upto_region 1 with fail
   rw[HW.out]
   go_upto_region 5 with fail
   cases hc:(x.toList==(iz s).toList)
   ·have v:Hid (mW s (x :: r) (l,a.map Ex.xs)=(7,l,a.map Ex.xs)):=by show _=_;simp[mW,N,hc]
    have a3:(x.toList != (iz s).toList)=true:=by simp[bne,hc]
    go_region_held3 (fun f=>f.cell? ⟨g,d,none⟩=some (.string x)/\f.cell? ⟨c.heap.size,0,none⟩=some (.int .i64 s.kind)/\f.cell? ⟨c.heap.size,1,none⟩=some (.string s.label)/\f.cell? ⟨c.heap.size,2,none⟩=some (.slice o.ao s.U6.length o.cap)/\f.cell? ⟨c.heap.size,3,none⟩=some (.slice z.ao s.Vh.length z.cap)/\f.cell? ⟨c.heap.size,4,none⟩=some (.string s.fin.file)/\f.cell? ⟨c.heap.size,5,none⟩=some (.int .i64 s.fin.line)/\f.cell? ⟨c.heap.size,6,none⟩=some (.int .i64 s.fin.col)/\f.cell? ⟨c.heap.size,7,none⟩=some (.int .i64 s.til)) (go_keep) (first | (go_at_call 191;refine(ad.out _ (by exact L.Vb (ab.refl [] _).drew) (by omega)).mono ?_;rintro e U ⟨rfl,E⟩;obtain⟨x0,x1,x2,x3,x4,x5,x6,x7,x8⟩:=HC.out U E))
    all_goals
     clear u0 u1 u2 u3 u4 u5 u6 u7 cx;go_wp2;go_ret;exact⟨a,H,QN (by rw[v.out]),by rw[v.out];exact V.Vb (((ab.refl [] _).drew).trans E),by rw[v.out],(aA.refl _ _ _).Vb (K.drew.trans E),fun _ q=>Q1 q⟩
   ·have v:Hid (mW s (x :: r) (l,a.map Ex.xs)=(0,l++[aL s],a.map Ex.xs++[r])):=by show _=_;simp[mW,N,hc]
    have a3:(x.toList != (iz s).toList)=false:=by simp[bne,hc]
    have VA:=mq s o z;unfold ee at VA;have a0:=hI VA;clear VA
    go_region_held3 (fun f=>f.cell? ⟨g,d,none⟩=some (.string x)/\f.cell? ⟨c.heap.size,0,none⟩=some (.int .i64 s.kind)/\f.cell? ⟨c.heap.size,1,none⟩=some (.string s.label)/\f.cell? ⟨c.heap.size,2,none⟩=some (.slice o.ao s.U6.length o.cap)/\f.cell? ⟨c.heap.size,3,none⟩=some (.slice z.ao s.Vh.length z.cap)/\f.cell? ⟨c.heap.size,4,none⟩=some (.string s.fin.file)/\f.cell? ⟨c.heap.size,5,none⟩=some (.int .i64 s.fin.line)/\f.cell? ⟨c.heap.size,6,none⟩=some (.int .i64 s.fin.col)/\f.cell? ⟨c.heap.size,7,none⟩=some (.int .i64 s.til)) (go_keep) (first | (go_at_call 191;refine(ad.out _ (by exact L.Vb (ab.refl [] _).drew) (by omega)).mono ?_;rintro e U ⟨rfl,E⟩;obtain⟨x0,x1,x2,x3,x4,x5,x6,x7,x8⟩:=HC.out U E))
    all_goals
     have M:=V.Vb (((ab.refl [] _).drew).trans E);have bp:=M.bag.lt;have a1:=M.bag.free;obtain⟨m0,m1⟩:=M.cells;have bd:=L.Vb (((ab.refl [] _).drew).trans E);clear u0 u1 u2 u3 u4 u5 u6 u7 cx x0
     go_upto_region 7 with fail
     have s4:Hid ((aB l).n+1<=maxLen):=by show _<=_;simp only[aB];unfold maxLen;omega
     have s5:Hid (((aB l).n+1)*16<=140737488355328):=by show _<=_;simp only[aB];omega
     have s3:Hid (∀u∈([.string (aL s)]:List Value),u.oneCell'=true):=by intro u hu;simp at hu;subst hu;rfl
     have ba:Hid (∀J,ab [] U.drew J->ma J w l a H/\ma (J.alloc (.cells #[.string (aL s)] 9)) w l a H/\∀j u,([.string (aL s)]:List Value)[j]?=some u->(J.alloc (.cells #[.string (aL s)] 9)).cell? ((⟨J.heap.size,0,none⟩:Addr).add j)=some u):=by
      intro J k;have q:=M.Vb (((ab.refl [] U).drew).trans k);refine⟨q,q.Vb ((ab.refl [] _).alloc _),fun j u G=>?_⟩;have N:(J.alloc (.cells #[.string (aL s)] 9)).heap[J.heap.size]?=some (.cells #[.string (aL s)] 9 (0,0)):=QS _ _;rw[bL,aa N];simpa using G
     have a5:Hid (∀j,j≠0->pW (l++[aL s]) a j=pW l a j):=by
      intro j G
      match j,G with
      | 0,G=>exact absurd rfl G
      | 1,_=>rfl
      | m+2,_=>rfl
     go_region_law (first | (refine cd rfl (.tmp 32) (.tmp 35) 61 rfl i0 (.string ⟨#[]⟩) 16 (H 0) (aB l) underlying61 hi ar aS bc rfl Rc (by simp[Act.eval] <;> rfl) (y1.bag.own 0) ⟨_,0,none⟩ 1 1 [.string (aL s)] (by simp[Act.eval] <;> rfl) rfl y2 s3.out Rc s4.out s5.out ?_;intro I i w5 an Y D;obtain⟨k5,f5,HP⟩:=a8.app y1.bag (cs':=oU (l++[aL s]) a (g9 H 0 ⟨some ⟨I,0,none⟩,i⟩)) (rows':=pW (l++[aL s]) a) 0 0 I i ((aB l).n+1) _ an (dr l (aL s)) Y (by simpa using D) a5.out (.slice (H 0).ao l.length (H 0).cap) rfl (by simp[oU,g9,aB]);clear an Y D) | (go_simp;go_at_call 189;refine(a0.out _ (by exact bd.Vb (ab.refl [] _).drew) (by omega)).mono ?_;rintro e J ⟨rfl,k4⟩;obtain⟨y0,y1,y2⟩:=ba.out J k4;obtain⟨n0,n1⟩:=y0.cells;obtain⟨p0,p1⟩:=y1.cells))
     all_goals
      generalize hX:w5.setCell ⟨w,0,none⟩ (.slice (some ⟨I,0,none⟩) ((aB l).n+1) i)=X at HP ⊢;have T5:Hid (aA w c H X (g9 H 0 ⟨some ⟨I,0,none⟩,i⟩)):=(((HP.out.2.first ((ab.refl [] _).alloc _)).first (((ab.refl [] U).drew).trans k4)).first (K.drew.trans E));have D5:=HP.out.1;have q1:=D5.cell 1;have a7:=D5.free;have br:=D5.lt;simp only[oU,List.getElem?_cons_succ,List.getElem?_cons_zero]at q1;clear hX k5 f5 n0 n1 p0 p1 y0 y1 y2 m0 m1 a1 x1 x2 x3 x4 x5 x6 x7 x8
      go_upto_region 8 with fail
      have hD:Hid (a8 (X.alloc (.cells #[v6 (jb g d b r)] 61)).drew w 343 (oU (l++[aL s]) a (g9 H 0 ⟨some ⟨I,0,none⟩,i⟩)) (pW (l++[aL s]) a) (g9 H 0 ⟨some ⟨I,0,none⟩,i⟩)):=D5.Vb ((ab.refl [] X).alloc _).drew
      have s2:Hid (∀j u,([v6 (jb g d b r)]:List Value)[j]?=some u->(X.alloc (.cells #[v6 (jb g d b r)] 61)).drew.cell? ((⟨X.heap.size,0,none⟩:Addr).add j)=some u):=by
       intro j u G;have N:(X.alloc (.cells #[v6 (jb g d b r)] 61)).drew.heap[X.heap.size]?=some (.cells #[v6 (jb g d b r)] 61 (0,0)):=QS _ _;rw[bL,aa N];simpa using G
      have S:Hid (∀u∈([v6 (jb g d b r)]:List Value),u.oneCell'=true):=by intro u hu;simp at hu;subst hu;rfl
      have bf:Hid ((gn a).n+1<=maxLen):=by show _<=_;simp only[gn];unfold maxLen;omega
      have a6:Hid (((gn a).n+1)*24<=140737488355328):=by show _<=_;simp only[gn];omega
      have ag:Hid (∀j,j≠1->pW (l++[aL s]) (a++[jb g d b r]) j=pW (l++[aL s]) a j):=by
       intro j G
       match j,G with
       | 0,_=>rfl
       | 1,G=>exact absurd rfl G
       | m+2,_=>rfl
      unfold v6 at hD s2 S;simp only[jb]at hD s2 S
      go_region_law (refine cd rfl (.tmp 43) (.tmp 46) 218 rfl i1 (.slice none 0 0) 24 (g9 H 0 ⟨some ⟨I,0,none⟩,i⟩ 1) (gn a) underlying218 az a2 a4 bg rfl Rc (by simp[Act.eval] <;> rfl) (hD.out.own 1) ⟨X.heap.size,0,none⟩ 1 1 _ (by simp[Act.eval]) rfl s2.out S.out Rc bf.out a6.out ?_;intro g6 O w6 ap Q p;obtain⟨k6,f6,ac⟩:=a8.app hD.out (cs':=oU (l++[aL s]) (a++[jb g d b r]) (g9 (g9 H 0 ⟨some ⟨I,0,none⟩,i⟩) 1 ⟨some ⟨g6,0,none⟩,O⟩)) (rows':=pW (l++[aL s]) (a++[jb g d b r])) 1 1 g6 O ((gn a).n+1) _ ap (ug a (jb g d b r)) Q (by simpa using p) ag.out (.slice (g9 H 0 ⟨some ⟨I,0,none⟩,i⟩ 1).ao a.length (g9 H 0 ⟨some ⟨I,0,none⟩,i⟩ 1).cap) rfl (by simp[oU,g9,gn]);clear ap Q p)
      all_goals
       have T6:=hI (T5.out.trans (ac.out.2.first ((ab.refl [] _).alloc _).drew));clear q1 a7 k6 f6;generalize (if b=1 then some (⟨g,d,none⟩:Addr) else some ⟨g,d+1,none⟩)=AE;go_wp2;go_ret;refine⟨a++[jb g d b r],_,QN (by rw[v.out]),?_,by rw[v.out];simp[jb],T6.out,fun e q=>by rw[Rr]at q;rcases q with q | q;exact Q1 q;simp at q;subst q;exact QV (MC g d b r)⟩;rw[v.out];refine⟨ac.out.1,by simp[h.len],?_⟩;intro e C;rw[Rr]at C
       rcases C with C | C
       ·exact(h.exs e C).turned T6.out
       ·simp at C;subst C
        exact(Og b hx).turned T6.out
 ·go_enter func272,ntmps272
  go_upto_region 1 with fail
  rw[HW.out];have RA:=pT w l a H o s.U6 W V (by omega) Z L ax;have RL:=Jv l (a.map Ex.xs) 10000 (by omega) (by intro y hy;obtain⟨e,P,rfl⟩:=Si.1 hy;exact Z e P) s.U6;have v:Hid (mW s F (l,a.map Ex.xs)=if Dv (nY l (a.map Ex.xs) s.U6) F=true then(0,l,a.map Ex.xs) else(8,l,a.map Ex.xs)):=by show _=_;simp[mW,N]
  generalize nY l (a.map Ex.xs) s.U6=R at *;clear u1 u3 u4 u5 u6 u7;go_wp2_with fail;refine RA.mono ?_;rintro e w2 ⟨hd,rfl,ho,hn,k2⟩;go_wp2_with fail;refine(yo hd P R F w2 ho.view (al.view.Vb k2) (by omega) (by omega)).mono ?_;rintro e U ⟨rfl,E⟩
  cases af:Dv R F
  ·have A:Hid (mW s F (l,a.map Ex.xs)=(8,l,a.map Ex.xs)):=by show _=_;rw[v.out,af];simp
   clear v RA;go_wp2;go_ret;exact⟨a,H,QN (by rw[A.out]),by rw[A.out];exact(V.Vb k2).Vb E,by rw[A.out],(aA.refl _ _ _).Vb ((K.trans k2).trans E),fun _ q=>Q1 q⟩
  ·have A:Hid (mW s F (l,a.map Ex.xs)=(0,l,a.map Ex.xs)):=by show _=_;rw[v.out,af];simp
   clear v RA;go_wp2;go_ret;exact⟨a,H,QN (by rw[A.out]),by rw[A.out];exact(V.Vb k2).Vb E,by rw[A.out],(aA.refl _ _ _).Vb ((K.trans k2).trans E),fun _ q=>Q1 q⟩
theorem Ck(b:aw H i (bB v))(p:v.length<=1073741824) :
  Calls prog 280 #[.slice i.ao v.length i.cap,.int .i64 f] H fun e s=>e=.returned (.bool (jG v f))/\s=H:=by
 obtain⟨x,u⟩:=i
 rcases b.Vm with ⟨t,o,_⟩ | ⟨g,r,n,_⟩
 ·have h:v.length=0:=o
  have m:v=[]:=Rk h;subst m;clear b o h p t;go_enter func280,ntmps280;go_wp2;refine SZ 1 ?_;rw[Tr];go_wp2;go_ret;exact⟨rfl,rfl⟩
 ·simp only at n
  subst n;go_enter func280,ntmps280;go_wp2
  go_loopg [5] v.length (fun g q wr=>∃k:Nat,k<=v.length/\g=v.length-k/\q=.int .i64 k/\Hid (jG v f=jG (v.drop k) f)/\wr=H)
  case atStart=>exact⟨0,by omega,by omega,rfl,rfl,rfl⟩
  case round =>
   obtain⟨k,w,z,rfl,d,rfl⟩:=hrel
   by_cases a:k<v.length
   ·have y:=b.cell rfl k (.int .i64 v[k]) (jP v k a)
    cases c:(v[k]==f)
    ·have j:Hid (jG v f=jG (v.drop (k+1)) f):=yE v f k a d.out c
     have l:=(oF v[k] f).trans c;clear d b c;go_wp2
     go_roundg (v.length-(k+1))
     case measure=>omega
     case rel=>exact⟨k+1,by omega,rfl,by go_num,j,rfl⟩
    ·have j:Hid (jG v f=true):=BQ v f k a d.out c
     have l:=(oF v[k] f).trans c;clear d b c;go_wp2;go_ret;exact⟨aD j.out.symm,rfl⟩
   ·have j:Hid (jG v f=false):=yF v f k a d.out
    clear d b;go_wp2;go_ret;exact⟨aD j.out.symm,rfl⟩
structure xE(w:World)(b rb ro g n tb:Nat):Prop where
 blk:∃arr t,w.heap[b]?=some (.cells arr t (0,0))/\arr[0]?=some (.pointer (some ⟨rb,ro,none⟩))/\arr[1]?=some (.slice (some ⟨g,0,none⟩) n n)/\arr[2]?=some (.pointer (some ⟨tb,0,none⟩))
theorem xE.Vb{c:Nat}(h:xE S n a g zt y6 c)(k:ab [] S o):xE o n a g zt y6 c:=by
 obtain⟨b,t,d,e⟩:=h.blk;exact⟨b,t,k.get d (by simp),e⟩
theorem xE.cells{g:Nat}(h:xE S n a g g zt y6):S.cell? ⟨n,0,none⟩=some (.pointer (some ⟨a,g,none⟩))/\S.cell? ⟨n,1,none⟩=some (.slice (some ⟨g,0,none⟩) zt zt)/\S.cell? ⟨n,2,none⟩=some (.pointer (some ⟨y6,0,none⟩)):=by
 obtain⟨c,t,b,e,d,f⟩:=h.blk;exact⟨(aa b 0).trans e,(aa b 1).trans d,(aa b 2).trans f⟩
def pQ(vs:List ByteArray):List ByteArray->List Nat->List Nat
 | [],acc=>acc
 | x :: r,acc=>match pu vs x with
  | none=>pQ vs r acc
  | some p=>if jG acc p=true then pQ vs r acc else pQ vs r (acc++[p])
def kO(vs xs:List ByteArray):List Nat:=pQ vs xs []
theorem NV(a:f<l.length):pQ T (l.drop f) v=match pu T l[f] with
  | none=>pQ T (l.drop (f+1)) v
  | some p=>if jG v p=true then pQ T (l.drop (f+1)) v else pQ T (l.drop (f+1)) (v++[p]):=by
 rw[Rf a];rfl
theorem LU(a:¬f<l.length):pQ T (l.drop f) v=v:=by
 rw[R8 (by omega)];rfl
theorem CF(c:List ByteArray)(a:List Nat)(h:∀p∈a,p<l.length):(∀p∈pQ l c a,p<l.length)/\(pQ l c a).length<=a.length+c.length:=by
 induction c generalizing a with
 | nil=>exact⟨h,by simp[pQ]⟩
 | cons x r d =>
  rw[pQ]
  split
  ·have:=d a h;exact⟨this.1,by simp;omega⟩
  ·next p e =>
   split
   ·have:=d a h;exact⟨this.1,by simp;omega⟩
   ·have:=d (a++[p]) (by intro q b;simp at b;rcases b with b | rfl;exact h q b;exact GB e)
    exact⟨this.1,by have f:=this.2;simp at f ⊢;omega⟩
theorem Kb(h:n∈kO y N):n<y.length:=(CF y N [] (by simp)).1 n h
theorem FH:(kO T l).length<=l.length:=by have:=(CF T l [] (by simp)).2;unfold kO;simpa using this
theorem wC(hp:xE H y4 y7 y8 D I w)(h:kQ H w x M y5 z5)(hl:x.length<=1073741824)(T:jT H i l)(W:l.length<=1000000) :
  Calls prog 279 #[.pointer (some ⟨y4,0,none⟩),.slice i.ao l.length i.cap] H fun e w'=>∃c:Hd,e=.returned (.slice c.ao (kO x l).length c.cap)/\aw w' c (bB (kO x l))/\(∀d,c.blk=some d->H.heap.size<=d)/\ab [] H w':=by
 obtain⟨i0,hi,Q,Y,U⟩:=Re yH;obtain⟨ao,ai⟩:=i
 rcases T with rfl | ⟨gv,J,ag,t,e1,e2,Z,e4,e5⟩
 ·clear W
  go_enter func279,ntmps279;go_wp2;refine SZ 1 ?_;rw[Tr];go_wp2;go_ret;exact⟨⟨none,0⟩,rfl,QZ _ _ _ _,by intro d n;simp[Hd.blk]at n,ab.refl _ _⟩
 simp only at e1 e4 e5;subst e1;obtain⟨R,HR⟩:∃R,Hid (R=kO x l):=⟨_,rfl⟩
 rw[<-HR.out];go_enter func279,ntmps279;go_wp2
 go_loopg [5,6] l.length (fun gk sv ad wr=>∃(k:Nat) (c:Hd) (a:List Nat),k<=l.length/\gk=l.length-k/\ad=.int .i64 k/\sv=.slice c.ao a.length c.cap/\a.length<=k/\Hid (R=pQ x (l.drop k) a)/\aw wr c (bB a)/\(∀d,c.blk=some d->H.heap.size<=d)/\ab [] H wr)
 case atStart=>exact⟨0,⟨none,0⟩,[],by omega,by omega,rfl,rfl,by simp,HR.out,QZ _ _ _ _,by intro d n;simp[Hd.blk]at n,ab.refl _ _⟩
 case round =>
  obtain⟨k,c,a,hk,hg,rfl,rfl,an,o,K,F,A⟩:=hrel;have hr:=h.Vb A;obtain⟨p0,p1,p2⟩:=(hp.Vb A).cells
  by_cases v:k<l.length
  ·have c2:wr.cell? ⟨gv,J+k,none⟩=some (.string l[k]):=(aa (A.get e2 (by simp)) (J+k)).trans (Z k l[k] (QP v))
   have af:(k:Int)<l.length:=by omega
   have f:=hI (o.out.trans (NV x l a k v));have g:=hI (fun w1 (k1:ab [] wr w1)=>sZ w x M y5 z5 l[k] w1 (hr.Vb k1) hl);clear o Z p0 p1;generalize l[k]=y at *
   rcases hpo:pu x y with _ | p
   ·have s:Hid (R=pQ x (l.drop (k+1)) a):=by show _=_;rw[f.out,hpo]
    rw[hpo]at g;simp only[nB]at g;clear f
    go_upto_region 5 with fail
    go_quiet ((go_at_call 260;exact Rd (g.out _ ((ab.refl [] _).drewN _))))
    go_wp2
    go_roundg (l.length-(k+1))
    case measure=>omega
    case rel=>exact⟨k+1,c,a,by omega,rfl,by go_num,rfl,by omega,s.out,K.Vg (fun d n=>((ab.refl [] wr).drewN _).block d (K.lt n) (by simp)),F,A.drewN _⟩
   ·rw[hpo]at g
    simp only[nB]at g;have ac:(p:Int) ≥ 0:=by omega
    go_upto_region 5 with fail
    go_quiet ((go_at_call 260;exact Rd (g.out _ ((ab.refl [] _).drewN _))))
    obtain⟨N,q⟩:∃N,N=wr.drewN nq:=⟨_,rfl⟩
    rw[<-q];have m:aw N c (bB a):=by rw[q];exact K.Vg (fun d n=>((ab.refl [] wr).drewN _).block d (K.lt n) (by simp))
    have B:ab [] H N:=by rw[q];exact A.drewN _
    clear q
    cases P:jG a p
    ·have s:Hid (R=pQ x (l.drop (k+1)) (a++[p])):=by show _=_;rw[f.out,hpo];simp[P]
     have G:=m.Vg (fun d n=>((ab.refl [] N).alloc (.cells #[.int .i64 p] 3)).block d (m.lt n) (by simp));clear f
     go_upto_region 7 with (go_at_call 280;refine(Ck c a p _ (by exact m) (by omega)).mono ?_;rintro e w7 ⟨rfl,z⟩;rw[z,P])
     go_wp2_with (at_builtin;refine aM _ rfl (.tmp 31) (.tmp 33) 26 rfl i0 (.int .i64 0) 8 c (bB a) underlying26 hi Q Y U rfl Rc rfl (by exact G) ⟨_,0,none⟩ 1 1 [.int .i64 p] rfl rfl ?d1 ?d2 Rc ?d3 ?d4 ?_)
     case d1=>intro j u O;match j,O with | 0,O=>simp at O;subst O;simp[Addr.add]
     case d2=>intro u hu;simp at hu;subst hu;rfl
     case d3=>simp only[bB];unfold maxLen;omega
     case d4=>simp only[bB];omega
     intro S C w5 L r b;rw[mv a p]at L;have E:=B.alloc (.cells #[.int .i64 p] 3);have X:=E.grown r F
     have al:H.heap.size<=S:=by
      rcases b with e | e
      ·exact F S e
      ·have:=E.size;simp at e this;omega
     have V:Hid ((bB a).n+1=(a++[p]).length):=by show _=_;simp[bB]
     rw[V.out];clear r b G;go_wp2
     go_roundg (l.length-(k+1))
     case measure=>omega
     case rel=>exact⟨k+1,⟨some ⟨S,0,none⟩,C⟩,a++[p],by omega,rfl,by go_num,rfl,by simp;omega,s.out,L,by intro d n;simp[Hd.blk]at n;omega,X⟩
    ·have s:Hid (R=pQ x (l.drop (k+1)) a):=by show _=_;rw[f.out,hpo];simp[P]
     clear f;go_wp2_with (go_at_call 280;refine(Ck c a p _ (by exact m) (by omega)).mono ?_;rintro e w7 ⟨rfl,z⟩;rw[z,P])
     go_roundg (l.length-(k+1))
     case measure=>omega
     case rel=>exact⟨k+1,c,a,by omega,rfl,by go_num,rfl,by omega,s.out,m,F,B⟩
  ·have s:Hid (a=R):=(o.out.trans (LU x l a k v)).symm
   clear o Z;go_wp2;go_ret;exact⟨c,by rw[<-s.out];rfl,by rw[<-s.out];exact K,F,A⟩
def xH(side:Nat)(ms:List Bool)(ones others:List Nat):Bool:=ones.all (fun i=>others.all (fun j=>eD side ms i j))
theorem M9{side:Nat}{ms:List Bool}(a:w<z7.length)(b:f<zb.length)(h:eD side ms z7[w] zb[f]=false):xH side ms z7 zb=false:=by
 cases e:xH side ms z7 zb
 ·rfl
 ·unfold xH at e
  rw[Sn]at e;have:=e _ (Rb a);rw[Sn]at this;rw[this _ (Rb b)]at h;cases h
theorem Kx{b:List Bool}(h:∀i j (c:i<z7.length) (a:j<zb.length),eD n b z7[i] zb[j]=true):xH n b z7 zb=true:=by
 unfold xH;rw[Sn];intro x e;rw[Sn];intro y d;obtain⟨i,c,rfl⟩:=R0 e;obtain⟨j,a,rfl⟩:=R0 d;exact h i j c a
theorem zD(z:Hd)(b a:List Nat)(o:World)(hp:xE o y4 y7 y8 D I w)(h:kQ o w x M y5 z5)(R:M.length=x.length*x.length)(L:x.length<=10000)(T:aw o i (bB b))(F:aw o z (bB a))(ad:b.length<=1000000)(ap:a.length<=1000000)(B:∀r∈b,r<x.length)(y:∀r∈a,r<x.length) :
  Calls prog 277 #[.pointer (some ⟨y4,0,none⟩),.slice i.ao b.length i.cap,.slice z.ao a.length z.cap] o fun e w'=>e=.returned (.bool (xH x.length M b a))/\∃m,w'=o.drewN m:=by
 go_enter func277,ntmps277;go_wp2
 go_loopg [7] b.length (fun gk c wr=>∃(k m:Nat),k<=b.length/\gk=b.length-k/\c=.int .i64 k/\Hid (∀c j (l:c<b.length) (C:j<a.length),c<k->eD x.length M b[c] a[j]=true)/\Hid (wr=o.drewN m))
 case atStart=>exact⟨0,0,by omega,by omega,rfl,fun c j l C h=>by omega,rfl⟩
 case round =>
  obtain⟨k,m,hk,hg,rfl,d,A⟩:=hrel
  by_cases p:k<b.length
  ·go_wp2_with fail
   go_loopg [8] a.length (fun G i2 S=>∃(j N:Nat),j<=a.length/\G=a.length-j/\i2=.int .i64 j/\Hid (∀c (l:c<a.length),c<j->eD x.length M b[k] a[c]=true)/\Hid (S=o.drewN N))
   case atStart=>exact⟨0,m,by omega,by omega,rfl,fun c l h=>by omega,A⟩
   case round =>
    obtain⟨j,N,C,af,rfl,g,f⟩:=hrel
    by_cases s:j<a.length
    ·have K:ab [] o wr:=by rw[f.out];exact(ab.refl [] _).drewN _
     have Z:=h.Vb K;obtain⟨p0,p1,p2⟩:=(hp.Vb K).cells
     rcases T.Vm with ⟨_,H,_⟩ | ⟨ga,ca,J,ai,U,ac,-⟩
     ·have:b.length=0:=H
      omega
     rcases F.Vm with ⟨_,H,_⟩ | ⟨gb,cb,P,ax,Q,al,-⟩
     ·have:a.length=0:=H
      omega
     have d1:wr.cell? ⟨ga,k,none⟩=some (.int .i64 b[k]):=(T.Vg (fun r O=>K.block r (T.lt O) (by simp))).cell J k (.int .i64 b[k]) (jP b k p);have d2:wr.cell? ⟨gb,j,none⟩=some (.int .i64 a[j]):=(F.Vg (fun r O=>K.block r (F.lt O) (by simp))).cell P j (.int .i64 a[j]) (jP a j s);have ar:b.length<=i.cap:=U;have a1:a.length<=z.cap:=Q;have ag:(k:Int)<b.length:=by omega
     have aS:(j:Int)<a.length:=by omega
     have x1:=B _ (Rb p);have x2:=y _ (Rb s);have t:=hI (M9 (side:=x.length) (ms:=M) k j p s)
     have q:Hid (eD x.length M b[k] a[j]=true->∀c (l:c<a.length),c<j+1->eD x.length M b[k] a[c]=true):=by
      intro hh c l aT
      by_cases e:c=j
      ·subst e;exact hh
      ·exact g.out c l (by omega)
     have AP:=fun nq=>qh w x M y5 z5 b[k] a[j] (wr.drewN nq) (Z.Vb ((ab.refl [] _).drewN nq)) R L x1 x2
     obtain⟨az,W⟩:=i;obtain⟨a0,V⟩:=z;simp only at J P;subst J;subst P;clear g Z p0 p1;generalize b[k]=X at *;generalize a[j]=Y at *;have n:=hI AP;clear AP
     cases E:eD x.length M X Y
     ·have u:=hI (t.out E)
      rw[E]at n;clear t q d
      go_upto_region 7 with fail
      go_quiet ((go_at_call 215;exact Rd (n.out _)))
      go_wp2;go_ret;exact⟨aD u.out.symm,_,by rw[f.out];exact Uf _ _ _⟩
     ·have u:=hI (q.out E)
      rw[E]at n;clear t q
      go_upto_region 7 with fail
      go_quiet ((go_at_call 215;exact Rd (n.out _)))
      go_wp2
      go_roundg (a.length-(j+1))
      case measure=>omega
      case rel=>exact⟨j+1,_,by omega,rfl,by go_num,u.out,by show _=_;rw[f.out];exact Uf _ _ _⟩
    ·have HN:Hid (∀c j (l:c<b.length) (C:j<a.length),c<k+1->eD x.length M b[c] a[j]=true):=by
      intro c j' l v an
      by_cases e:c=k
      ·subst e;exact g.out j' v (by omega)
      ·exact d.out c j' l v (by omega)
     clear g d;go_wp2
     go_roundg (b.length-(k+1))
     case measure=>omega
     case rel=>exact⟨k+1,N,by omega,rfl,by go_num,HN,f⟩
  ·have u:Hid (xH x.length M b a=true):=Kx (fun c j l C=>d.out c j l C (by omega))
   clear d;go_wp2;go_ret;exact⟨aD u.out.symm,m,A.out⟩
structure iA(w:World)(g N:Nat)(F:Nat->List Nat)(K:Nat->Hd):Prop where
 arr:∃arr,w.heap[g]?=some (.cells arr 26 (0,0))/\arr.size=N/\∀n,n<N->arr[n]?=some (.slice (K n).ao (F n).length (K n).cap)
 own:∀n,n<N->aw w (K n) (bB (F n))
 off:∀n,n<N->(K n).blk≠some g
theorem iA.Vb(h:iA S n a z4 d)(q:ab [] S o):iA o n a z4 d:=by
 obtain⟨b,g,i,f⟩:=h.arr;exact⟨⟨b,q.get g (by simp),i,f⟩,fun c e=>(h.own c e).Vg (fun x j=>q.block x ((h.own c e).lt j) (by simp)),h.off⟩
theorem iA.cell(h:iA S n a z4 d)(b:Nat)(e:b<a):S.cell? ⟨n,b,none⟩=some (.slice (d b).ao (z4 b).length (d b).cap):=by
 obtain⟨c,g,i,f⟩:=h.arr;rw[aa g];exact f b e
theorem iA.free(h:iA S n a z4 d)(b:Nat):S.frozen? ⟨n,b,none⟩=false:=by
 obtain⟨c,e,g,f⟩:=h.arr;exact am e b
theorem iA.lt(h:iA S n a z4 d):n<S.heap.size:=by
 obtain⟨c,b,f,e⟩:=h.arr;exact ae b
def Fy(F:Nat->List Nat)(k:Nat)(v:List Nat):Nat->List Nat:=fun n=>if n=k then v else F n
theorem iA.store{k:Nat}(h:iA S n a z4 d)(v:List Nat)(f:Hd)(o:aw S f (bB v))(i:f.blk≠some n) :
  iA (S.setCell ⟨n,k,none⟩ (.slice f.ao v.length f.cap)) n a (Fy z4 k v) (g9 d k f):=by
 obtain⟨l,p,j,m⟩:=h.arr;refine⟨⟨_,ah p _ _,by simpa using j,?_⟩,?_,?_⟩
 ·intro c e
  by_cases b:c=k
  ·subst b
   rw[dh];simp[j,e,Fy]
  ·rw[bU _ _ _ _ b]
   rw[Uk (by omega)];simp only[Fy,if_neg b];exact m c e
 ·intro c e
  by_cases b:c=k
  ·subst b
   rw[dh];simp only[Fy,if_pos];exact o.Vg (fun x g=>Q4 _ _ _ _ (by rintro rfl;exact i g))
  ·rw[bU _ _ _ _ b]
   simp only[Fy,if_neg b];exact(h.own c e).Vg (fun x g=>Q4 _ _ _ _ (by rintro rfl;exact h.off c e g))
 ·intro c e
  by_cases b:c=k
  ·subst b;rw[dh];exact i
  ·rw[bU _ _ _ _ b];exact h.off c e
end Go.Proofs.YtpddjjabfbfifaaGreat
