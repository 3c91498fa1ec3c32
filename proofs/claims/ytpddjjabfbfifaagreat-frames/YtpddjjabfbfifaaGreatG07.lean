import Derived.BigQuiet
import Derived.Maps.AppendAt
import Derived.Test.YtpddjjabfbfifaaGreatG06
namespace Go.Proofs.YtpddjjabfbfifaaGreat
open Go.RowKit Tryz
set_option maxRecDepth 100000
set_option maxHeartbeats 40000000
variable{S o:World}{n a g zt y6:Nat}{z6:Hd}{y N:List ByteArray}{d:Nat->Hd}{z7 zb:List Nat}{z4:Nat->List Nat}(y4 y7 y8 D I w:Nat)(x:List ByteArray)(M:List Bool)(y5 z5 i:Hd)(L:List (List ByteArray))(T:List ByteArray)(b:List St)(k:Nat->Hd)(l:List ByteArray)(v:List Nat)(f:Nat)(H:World)
def Ec(f:pA):Array Value:=#[.int .i64 f.1,.string f.2.file,.int .i64 f.2.line,.int .i64 f.2.col]
theorem jh{f:pA}(h:S.heap[n]?=some (.cells (Ec f) 165 (0,0))) :
  S.cell? ⟨n,0,none⟩=some (.int .i64 f.1)/\S.cell? ⟨n,1,none⟩=some (.string f.2.file)/\S.cell? ⟨n,2,none⟩=some (.int .i64 f.2.line)/\S.cell? ⟨n,3,none⟩=some (.int .i64 f.2.col):=by
 refine⟨?_,?_,?_,?_⟩ <;> (rw[aa h];rfl)
theorem Bp(s:St)(c:b.length<=10000)(e:s.Vh.length<=10000):gu ⟨(dD b f s.fin 1 (s.Vh.drop 1) (aK b f)).2,[],[],0,false⟩ 20000:=by
 have a:=(yj b f s.fin (s.Vh.drop 1) 1 (aK b f)).2;have d:(aK b f).length<=b.length:=oy b f b.length;simp only[List.length_drop]at a;exact⟨by simp only;omega,by simp,by simp,by simp,by simp⟩
theorem rJ(hr:dF H D I b k)(ha:w<b.length)(ok:iH b)(b2:yc b[w]) :
  Calls prog 138 #[.pointer (some ⟨D,I,none⟩),.int .i64 w] H fun e w'=>∃hd:Hd,
   e=.returned (.tuple #[.slice hd.ao (lK b w b[w]).1.length hd.cap,gU (lK b w b[w]).2])/\aw w' hd (go (lK b w b[w]).1)/\(∀x,hd.blk=some x->H.heap.size<=x)/\ab [] H w':=by
 have cl:=hr.lt;have bc:=ok.len;have ca:=ok.prfs w ha;have ct:(aK b w).length<=b.length:=oy b w b.length;obtain⟨AO,bx⟩:∃AO,Hid ((k (11+2*w)).ao=AO):=⟨_,rfl⟩
 obtain⟨W,hW⟩:∃W,W=H.alloc (.cells #[.int .i64 0,.string ⟨#[]⟩,.int .i64 0,.int .i64 0] 165):=⟨_,rfl⟩
 have K:ab [] H W:=by rw[hW];exact(ab.refl [] _).alloc _
 have BF:W.heap[H.heap.size]?=some (.cells bA 165 (0,0)):=by rw[hW];exact QS _ _
 have HW:=hI hW.symm;clear hW;go_enter func138,ntmps138
 go_upto_region 1 with fail
 rw[HW.out];go_wp2_with fail;refine(a9 D I w b k _ (hr.Vb K) ha).mono ?_;rintro e l ⟨rfl,S⟩;unfold ee;rw[bx.out];obtain⟨TB,az⟩:∃TB:Array Value,TB=#[.int .i64 b[w].kind,.string b[w].label,.slice (k (10+2*w)).ao b[w].U6.length (k (10+2*w)).cap,.slice AO b[w].Vh.length (k (11+2*w)).cap,.string b[w].fin.file,.int .i64 b[w].fin.line,.int .i64 b[w].fin.col,.int .i64 b[w].til]:=⟨_,rfl⟩
 obtain⟨W2,z⟩:∃W2,W2=l.alloc (.cells #[.int .i64 b[w].kind,.string b[w].label,.slice (k (10+2*w)).ao b[w].U6.length (k (10+2*w)).cap,.slice AO b[w].Vh.length (k (11+2*w)).cap,.string b[w].fin.file,.int .i64 b[w].fin.line,.int .i64 b[w].fin.col,.int .i64 b[w].til] 158):=⟨_,rfl⟩
 have bg:=hI z.symm;have K2:ab [] H W2:=by rw[z];exact(K.trans S).alloc _
 have BT:W2.heap[l.heap.size]?=some (.cells TB 158 (0,0)):=by rw[z,az];exact QS _ _
 have bs:W2.heap[H.heap.size]?=some (.cells bA 165 (0,0)):=by rw[z];exact((ab.refl [] _).alloc _).get (S.get BF (by simp)) (by simp)
 have cA:H.heap.size<l.heap.size:=by have:=ae (S.get BF (by simp));omega
 have cy:=ae BT;have u:=hI az;clear z az
 go_upto_region 2 with fail
 rw[bg.out];clear HW bg S BF K;have af:=K2.size;have a7:=hr.Vb K2;go_wp2_with fail;refine(mA D I w b k _ a7 ha ok).mono ?_;rintro e G ⟨o,rfl,ba,b5,C⟩
 have CM:dL (G.alloc (.cells #[.slice o.ao (aK b w).length o.cap,.slice none 0 0,.slice none 0 0,.int .i64 0,.bool false] 279)) G.heap.size ⟨aK b w,[],[],0,false⟩ (xL o):=Nf (cs:=lF ⟨aK b w,[],[],0,false⟩ (xL o)) (rows:=wW ⟨aK b w,[],[],0,false⟩) ba (by
  intro i
  match i with
  | 0=>exact QZ _ _ _ _
  | 1=>exact QZ _ _ _ _
  | m+2=>exact QZ _ _ _ _)
 have K4:ab [] H (G.alloc (.cells #[.slice o.ao (aK b w).length o.cap,.slice none 0 0,.slice none 0 0,.int .i64 0,.bool false] 279)):=(K2.trans C).alloc _;have aS:(G.alloc (.cells #[.slice o.ao (aK b w).length o.cap,.slice none 0 0,.slice none 0 0,.int .i64 0,.bool false] 279)).heap[l.heap.size]?=some (.cells TB 158 (0,0)):=((ab.refl [] _).alloc _).get (C.get BT (by simp)) (by simp);have ap:(G.alloc (.cells #[.slice o.ao (aK b w).length o.cap,.slice none 0 0,.slice none 0 0,.int .i64 0,.bool false] 279)).heap[H.heap.size]?=some (.cells bA 165 (0,0)):=((ab.refl [] _).alloc _).get (C.get bs (by simp)) (by simp);have cq:W2.heap.size<=G.heap.size:=C.size;have j:∀x,f9 (xL o) x->W2.heap.size<=x:=fun x a=>b5 x (NP a)
 obtain⟨W4,ag⟩:∃W4,W4=G.alloc (.cells #[.slice o.ao (aK b w).length o.cap,.slice none 0 0,.slice none 0 0,.int .i64 0,.bool false] 279):=⟨_,rfl⟩
 rw[<-ag]at CM K4 aS ap;have bl:=hI ag.symm;clear ag ba b5 C BT bs
 go_upto_region 3 with fail
 rw[bl.out];clear bl;have bd:=Bp b w b[w] bc ca;have b3:=(yj b w b[w].fin (b[w].Vh.drop 1) 1 (aK b w)).1;have T:=xS G.heap.size ⟨aK b w,[],[],0,false⟩ (xL o) D I w b k H W4 CM hr K4 ha ok (by simp only;omega) (by omega) (fun x a=>Q3 af (j x a));have bk:Hid (Gb b w b[w]=Gz (dD b w b[w].fin 1 (b[w].Vh.drop 1) (aK b w)).1.2 (b[w].Vh.drop (dD b w b[w].fin 1 (b[w].Vh.drop 1) (aK b w)).1.1) ⟨(dD b w b[w].fin 1 (b[w].Vh.drop 1) (aK b w)).2,[],[],0,false⟩):=rfl;simp only at T;have cz:=a8.lt CM;simp only[List.length_drop]at b3;generalize dD b w b[w].fin 1 (b[w].Vh.drop 1) (aK b w)=BL at *;obtain⟨⟨nx,bf,bp⟩,ns⟩:=BL;simp only at T bk bd b3;go_wp2_with fail;refine T.mono ?_;rintro e d ⟨rfl,H5,D5,T5⟩;unfold gU
 have K5:=K4.ofP T5.1 (fun x a=>by
  rcases a with e | e
  ·omega
  ·exact Q3 af (j x e))
 have n1:¬f9 H5 H.heap.size:=T5.fresh _ (by omega) (fun hm=>by have:=j _ hm;omega);have n2:¬f9 H5 l.heap.size:=T5.fresh _ (by omega) (fun hm=>by have:=j _ hm;omega)
 have nb:∀x,f9 H5 x->H.heap.size<=x:=fun x a=>by
  rcases T5.2 x a with e | e
  ·exact Q3 af (j x e)
  ·omega
 have a6:=T5.1.get aS (by rintro (e | e);omega;have:=j _ e;omega);have br:=T5.1.get ap (by rintro (e | e);omega;have:=j _ e;omega);have n3:¬f9 H5 d.heap.size:=fun hm=>by have:=a8.inlt D5 hm;omega
 have cu:=T5.1.size;obtain⟨W6,U⟩:∃W6,W6=d.alloc (.cells #[.int .i64 bf,.string bp.file,.int .i64 bp.line,.int .i64 bp.col] 165):=⟨_,rfl⟩
 have k6:ab [] d W6:=by rw[U];exact(ab.refl [] _).alloc _
 have bo:W6.heap[d.heap.size]?=some (.cells (Ec (bf,bp)) 165 (0,0)):=by rw[U];exact QS _ _
 have C6:=dL.Vb D5 k6;have bj:=k6.get a6 (by simp);have b4:=k6.get br (by simp);have K6:=K5.trans k6;have bv:=hI U.symm;clear U
 go_upto_region 4 with fail
 rw[bv.out];clear bv aS ap a6 br D5 T5 T CM K4 K5 a7 k6;go_wp2
 go_loopg [10] (b[w].Vh.length-nx) (fun gk iv wr=>∃(i:Nat) (h:mg) (q:Nat->Hd) (g:pA) (N:Nat),i<=10001/\gk=b[w].Vh.length-i/\iv=.int .i64 i/\gu h N/\N+kt (b[w].Vh.drop i)<=1020000/\Hid (Gb b w b[w]=Gz g (b[w].Vh.drop i) h)/\dL wr G.heap.size h q/\(∀x,f9 q x->H.heap.size<=x)/\ab [] H wr /\
  wr.heap[H.heap.size]?=some (.cells bA 165 (0,0))/\wr.heap[l.heap.size]?=some (.cells TB 158 (0,0))/\wr.heap[d.heap.size]?=some (.cells (Ec g) 165 (0,0))/\¬f9 q H.heap.size/\¬f9 q l.heap.size/\¬f9 q d.heap.size)
 case atStart=>exact⟨nx,_,H5,(bf,bp),20000,by omega,by omega,rfl,bd,by have:=C2 b[w].Vh nx;have:=b2.size;omega,bk,C6,nb,K6,b4,bj,bo,n1,n2,n3⟩
 case round =>
  obtain⟨i,h,q,g,N,hi,hg,rfl,ac,hN,Z,hC,a4,KW,B1,Y,B9,n1,n2,n3⟩:=hrel;clear C6 nb K6 b4 bj bo;have ch:=hr.Vb KW;have bw:=ae B1;have bz:=ae Y;have b0:=ae B9;have s:=ch.Vn.prfs w b[w] (QP ha);obtain⟨f0,f1,f2,f3⟩:=jh B9;have yf:=am B9;obtain⟨M,J,L,O⟩:=da B1;have yz:=am B1;have co:((i:Int) ≥ 0):=by omega
  obtain⟨a5,al,aT,ax,an⟩:=hC.cells;have cx:=a8.lt hC
  by_cases E:i<b[w].Vh.length
  ·cases c:(g.1==0)
   ·have t3:wr.cell? ⟨l.heap.size,3,none⟩=some (.slice AO b[w].Vh.length (k (11+2*w)).cap):=by rw[aa Y,u.out];rfl
    have p:Hid (lK b w b[w]=([],g)):=by show _=_;unfold lK;rw[Z.out,GA _ _ _ c];simp[uF,c]
    have n:(g.1 != 0)=true:=by simp[bne,c]
    clear Z s
    go_upto_region 13 with fail
    go_region
    all_goals go_wp2
    all_goals exact QY (v:=.tuple #[.slice none 0 0,.agg #[.int .i64 g.1,.string g.2.file,.int .i64 g.2.line,.int .i64 g.2.col]]) (by simp[results,results138,go_sem,M,J,L,O]) rfl ⟨⟨none,0⟩,by rw[p.out];rfl,by rw[p.out];exact QZ _ _ _ _,by intro x a;simp[Hd.blk]at a,(kH KW (QR _) _ _ _ _).drew⟩
   ·obtain⟨gp,ep,ck,cf,d0,d1,d2,d3⟩:=s.word i E
    obtain rfl:AO=some ⟨gp,0,none⟩:=bx.out.symm.trans ep;have t3:wr.cell? ⟨l.heap.size,3,none⟩=some (.slice (some ⟨gp,0,none⟩) b[w].Vh.length (k (11+2*w)).cap):=by rw[aa Y,u.out];rfl
    have cp:gp<wr.heap.size:=s.lt (by unfold Hd.blk;rw[ep];rfl);clear ep s;have X:=b2.col b[w].Vh[i] (Rb E);have b6:=Fd b[w].Vh i E;have ar:=hI (Z.out.trans (Pm g b[w].Vh h i E c));have ai:=zr b[w].Vh[i].1 b[w].Vh[i].2 ac;have TW:=AD G.heap.size h q b[w].Vh[i].1 b[w].Vh[i].2.file b[w].Vh[i].2.line b[w].Vh[i].2.col wr hC N ac (by omega) X;clear Z;generalize b[w].Vh[i]=wd at *;obtain⟨t,pf,pl,pc⟩:=wd;simp only at d0 d1 d2 d3 ar ai TW X b6;generalize mT t ⟨pf,pl,pc⟩ h=Q at *;obtain⟨⟨qf,qp⟩,c2⟩:=Q;simp only at ar ai TW;unfold gU at TW;clear M J L O yz a5 al aT ax an;go_wp2_with fail;refine TW.mono ?_;rintro e w7 ⟨rfl,H7,D7,V⟩
    have be:∀x,(x=G.heap.size∨f9 q x)->H.heap.size<=x:=by
     rintro x (e | e)
     ·omega
     ·exact a4 x e
    have K7:=KW.ofP V.1 be;have q1:=V.1.get B1 (by rintro (e | e);omega;exact n1 e);have q2:=V.1.get Y (by rintro (e | e);omega;exact n2 e);have q9:=V.1.get B9 (by rintro (e | e);omega;exact n3 e);have m1:=V.fresh H.heap.size bw n1;have m2:=V.fresh l.heap.size bz n2;have m3:=V.fresh d.heap.size b0 n3;have y9:=am q9
    have m4:∀x,f9 H7 x->H.heap.size<=x:=fun x a=>by
     rcases V.2 x a with e | e
     ·exact a4 x e
     ·omega
    have kk:=fun a0 a1 a2 a3=>ji (w:=w7) (r:=d.heap.size) a0 a1 a2 a3
    have ad:=hI kk
    have cj:Hid (∀a0 a1 a2 a3,((((w7.setCell ⟨d.heap.size,0,none⟩ a0).setCell ⟨d.heap.size,1,none⟩ a1).setCell ⟨d.heap.size,2,none⟩ a2).setCell ⟨d.heap.size,3,none⟩ a3).heap[d.heap.size]?=some (.cells #[a0,a1,a2,a3] 165 (0,0))):=by
     intro a0 a1 a2 a3;rw[ah (ah (ah (ah q9 _ _) _ _) _ _)];rfl
    clear kk be d0 d1 d2 d3 t3 f0 f1 f2 f3 yf;obtain⟨g0,g1,g2,g3⟩:=jh q9;go_wp2
    go_roundg (b[w].Vh.length-(i+1))
    case measure=>omega
    case rel=>exact⟨i+1,c2,H7,(qf,qp),N+t.size,by omega,rfl,by go_num,ai,by omega,ar.out,a8.kept D7 (ad.out _ _ _ _) (by simp;omega) (by intro x a;simp;rintro rfl;exact m3 a),m4,kH K7 (by omega) _ _ _ _,(ad.out _ _ _ _).get q1 (by simp;omega),(ad.out _ _ _ _).get q2 (by simp;omega),cj.out _ _ _ _,m1,m2,m3⟩
  ·have t3:wr.cell? ⟨l.heap.size,3,none⟩=some (.slice AO b[w].Vh.length (k (11+2*w)).cap):=by rw[aa Y,u.out];rfl
   cases c:(g.1==0)
   ·have p:Hid (lK b w b[w]=([],g)):=by show _=_;unfold lK;rw[Z.out,GA _ _ _ c];simp[uF,c]
    have n:(g.1 != 0)=true:=by simp[bne,c]
    clear Z s
    go_upto_region 13 with fail
    go_region
    all_goals go_wp2
    all_goals exact QY (v:=.tuple #[.slice none 0 0,.agg #[.int .i64 g.1,.string g.2.file,.int .i64 g.2.line,.int .i64 g.2.col]]) (by simp[results,results138,go_sem,M,J,L,O]) rfl ⟨⟨none,0⟩,by rw[p.out];rfl,by rw[p.out];exact QZ _ _ _ _,by intro x a;simp[Hd.blk]at a,(kH KW (QR _) _ _ _ _).drew⟩
   ·have t4:wr.cell? ⟨l.heap.size,4,none⟩=some (.string b[w].fin.file):=by rw[aa Y,u.out];rfl
    have t5:wr.cell? ⟨l.heap.size,5,none⟩=some (.int .i64 b[w].fin.line):=by rw[aa Y,u.out];rfl
    have t6:wr.cell? ⟨l.heap.size,6,none⟩=some (.int .i64 b[w].fin.col):=by rw[aa Y,u.out];rfl
    have HE:Hid (lK b w b[w]=uF b[w].fin (cY,h)):=by show _=_;unfold lK;rw[Z.out,NQ _ _ _ _ E c]
    have n:(g.1 != 0)=false:=by simp[bne,c]
    clear Z s
    by_cases R:h.Vd=0
    ·have cb:¬((h.Vd:Int) > 0):=by omega
     by_cases P:h.steps.length=0
     ·have cc:((h.steps.length:Int)==0)=true:=by simp[P]
      have p:Hid (lK b w b[w]=([],(1,b[w].fin))):=by show _=_;rw[HE.out];simp[uF,cY,R,P]
      obtain⟨A,f⟩:∃A,A=(((wr.setCell ⟨d.heap.size,0,none⟩ (.int .i64 1)).setCell ⟨d.heap.size,1,none⟩ (.string b[w].fin.file)).setCell ⟨d.heap.size,2,none⟩ (.int .i64 b[w].fin.line)).setCell ⟨d.heap.size,3,none⟩ (.int .i64 b[w].fin.col):=⟨_,rfl⟩
      have k8:ab [d.heap.size] wr A:=by rw[f];exact ji _ _ _ _
      have K8:ab [] H A:=by rw[f];exact kH KW (by omega) _ _ _ _
      have F:A.heap[d.heap.size]?=some (.cells (Ec (1,b[w].fin)) 165 (0,0)):=by
       rw[f,ah (ah (ah (ah B9 _ _) _ _) _ _)];rfl
      have y:=k8.get B1 (by simp;omega);have C8:=a8.kept hC k8 (by simp;omega) (by intro x a;simp;rintro rfl;exact n3 a);have B:=hI f.symm;clear f k8
      go_upto_region 12 with fail
      rw[B.out];clear B f0 f1 f2 f3 yf M J L O yz a5 al aT ax an t3 t4 t5 t6 c n;obtain⟨f0,f1,f2,f3⟩:=jh F;have yf:=am F;obtain⟨M,J,L,O⟩:=da y;have yz:=am y
      go_upto_region 13 with fail
      go_region
      all_goals go_wp2
      all_goals exact QY (v:=.tuple #[.slice none 0 0,.agg #[.int .i64 1,.string b[w].fin.file,.int .i64 b[w].fin.line,.int .i64 b[w].fin.col]]) (by simp[results,results138,go_sem,M,J,L,O]) rfl ⟨⟨none,0⟩,by rw[p.out];rfl,by rw[p.out];exact QZ _ _ _ _,by intro x a;simp[Hd.blk]at a,(kH K8 (QR _) _ _ _ _).drew⟩
     ·have cc:((h.steps.length:Int)==0)=false:=Rh.2 (by omega)
      have p:Hid (lK b w b[w]=(h.steps,cY)):=by show _=_;rw[HE.out];simp[uF,cY,R,P]
      have bT:Hid (aw wr (q 2) (go h.steps)):=a8.own hC 2;have b1:Hid (∀x,(q 2).blk=some x->H.heap.size<=x/\x≠H.heap.size):=fun x a=>⟨a4 x ⟨2,a⟩,fun e=>n1 ⟨2,e ▸ a⟩⟩
      clear P R;go_wp2
      exact QY (v:=.tuple #[.slice (q 2).ao h.steps.length (q 2).cap,.agg #[.int .i64 0,.string ⟨#[]⟩,.int .i64 0,.int .i64 0]]) (by simp[results,results138,go_sem,M,J,L,O]) rfl
       ⟨q 2,by rw[p.out];rfl,by rw[p.out];exact bT.out.Vg (fun x a=>(ji (r:=H.heap.size) _ _ _ _).block x (bT.out.lt a) (by simp;exact(b1.out x a).2)),fun x a=>(b1.out x a).1,kH KW (QR _) _ _ _ _⟩
    ·have cb:(h.Vd:Int) > 0:=by omega
     have p:Hid (lK b w b[w]=([],(4,b[w].fin))):=by show _=_;rw[HE.out];simp[uF,cY,R]
     obtain⟨A,f⟩:∃A,A=(((wr.setCell ⟨d.heap.size,0,none⟩ (.int .i64 4)).setCell ⟨d.heap.size,1,none⟩ (.string b[w].fin.file)).setCell ⟨d.heap.size,2,none⟩ (.int .i64 b[w].fin.line)).setCell ⟨d.heap.size,3,none⟩ (.int .i64 b[w].fin.col):=⟨_,rfl⟩
     have k8:ab [d.heap.size] wr A:=by rw[f];exact ji _ _ _ _
     have K8:ab [] H A:=by rw[f];exact kH KW (by omega) _ _ _ _
     have F:A.heap[d.heap.size]?=some (.cells (Ec (4,b[w].fin)) 165 (0,0)):=by
      rw[f,ah (ah (ah (ah B9 _ _) _ _) _ _)];rfl
     have y:=k8.get B1 (by simp;omega);have C8:=a8.kept hC k8 (by simp;omega) (by intro x a;simp;rintro rfl;exact n3 a);have B:=hI f.symm;clear f k8
     go_upto_region 10 with fail
     rw[B.out];clear B f0 f1 f2 f3 yf M J L O yz a5 al aT ax an t3 t4 t5 t6 c n;obtain⟨f0,f1,f2,f3⟩:=jh F;have yf:=am F;obtain⟨M,J,L,O⟩:=da y;have yz:=am y
     go_upto_region 13 with fail
     go_region
     all_goals go_wp2
     all_goals exact QY (v:=.tuple #[.slice none 0 0,.agg #[.int .i64 4,.string b[w].fin.file,.int .i64 b[w].fin.line,.int .i64 b[w].fin.col]]) (by simp[results,results138,go_sem,M,J,L,O]) rfl ⟨⟨none,0⟩,by rw[p.out];rfl,by rw[p.out];exact QZ _ _ _ _,by intro x a;simp[Hd.blk]at a,(kH K8 (QR _) _ _ _ _).drew⟩
def Aa(s:St):Bool :=
 match s.Vh with
 | []=>false
 | (t,_) :: _=>t.toList == [40]
def lx(l:List St)(a:Nat)(s:St):List nF×pA:=if Aa s=true then lK l a s else fL l a s.fin s.Vh []
theorem Jb(hr:dF H D I b k)(C:w<b.length)(M:iH b)(ad:yc b[w]) :
  Calls prog 100 #[.pointer (some ⟨D,I,none⟩),.int .i64 w] H fun e w'=>∃a:Hd,
   e=.returned (.tuple #[.slice a.ao (lx b w b[w]).1.length a.cap,gU (lx b w b[w]).2])/\aw w' a (go (lx b w b[w]).1)/\(∀x,a.blk=some x->H.heap.size<=x)/\ab [] H w':=by
 have an:=hr.lt;have ar:=M.prfs w C;obtain⟨B,F⟩:∃B,Hid ((k (11+2*w)).ao=B):=⟨_,rfl⟩
 obtain⟨W,R⟩:∃W,W=H.alloc (.cells #[.int .i64 0,.string ⟨#[]⟩,.int .i64 0,.int .i64 0] 165):=⟨_,rfl⟩
 have K:ab [] H W:=by rw[R];exact(ab.refl [] _).alloc _
 have X:W.heap[H.heap.size]?=some (.cells bA 165 (0,0)):=by rw[R];exact QS _ _
 have HW:=hI R.symm;clear R;go_enter func100,ntmps100
 go_upto_region 1 with fail
 rw[HW.out];go_wp2_with fail;refine(a9 D I w b k _ (hr.Vb K) C).mono ?_;rintro e Q ⟨rfl,j⟩;unfold ee;rw[F.out];obtain⟨l,f⟩:∃l,l=Q.alloc (.cells #[.int .i64 b[w].kind,.string b[w].label,.slice (k (10+2*w)).ao b[w].U6.length (k (10+2*w)).cap,.slice B b[w].Vh.length (k (11+2*w)).cap,.string b[w].fin.file,.int .i64 b[w].fin.line,.int .i64 b[w].fin.col,.int .i64 b[w].til] 158):=⟨_,rfl⟩
 have L:=hI f.symm;have U:ab [] H l:=by rw[f];exact(K.trans j).alloc _
 have BT:l.heap[Q.heap.size]?=some (.cells #[.int .i64 b[w].kind,.string b[w].label,.slice (k (10+2*w)).ao b[w].U6.length (k (10+2*w)).cap,.slice B b[w].Vh.length (k (11+2*w)).cap,.string b[w].fin.file,.int .i64 b[w].fin.line,.int .i64 b[w].fin.col,.int .i64 b[w].til] 158 (0,0)):=by rw[f];exact QS _ _
 have ac:l.heap[H.heap.size]?=some (.cells bA 165 (0,0)):=by rw[f];exact((ab.refl [] _).alloc _).get (j.get X (by simp)) (by simp)
 have aS:H.heap.size<Q.heap.size:=by have:=ae (j.get X (by simp));omega
 have ap:=ae BT;clear f
 go_upto_region 2 with fail
 rw[L.out];clear HW L j X K;have t3:l.cell? ⟨Q.heap.size,3,none⟩=some (.slice B b[w].Vh.length (k (11+2*w)).cap):=by rw[aa BT];rfl
 have i:=hr.Vb U;have g:=i.Vn.prfs w b[w] (QP C)
 have d:Hid (∀(c:World) (fl:pA) (a:Hd) (O:List nF),ab [] l c->(∀x,a.blk=some x->l.heap.size<=x)->aw c a (go O)->lx b w b[w]=(O,fl) ->
   c.frozen? ⟨H.heap.size,0,none⟩=false/\c.frozen? ⟨H.heap.size,1,none⟩=false/\c.frozen? ⟨H.heap.size,2,none⟩=false/\c.frozen? ⟨H.heap.size,3,none⟩=false /\
   c.cell? ⟨H.heap.size,0,none⟩=some (.int .i64 0)/\c.cell? ⟨H.heap.size,1,none⟩=some (.string ⟨#[]⟩)/\c.cell? ⟨H.heap.size,2,none⟩=some (.int .i64 0)/\c.cell? ⟨H.heap.size,3,none⟩=some (.int .i64 0) /\
   ∀a0 Y Z S,Hid (ab [] H ((((c.setCell ⟨H.heap.size,0,none⟩ a0).setCell ⟨H.heap.size,1,none⟩ Y).setCell ⟨H.heap.size,2,none⟩ Z).setCell ⟨H.heap.size,3,none⟩ S)/\aw ((((c.setCell ⟨H.heap.size,0,none⟩ a0).setCell ⟨H.heap.size,1,none⟩ Y).setCell ⟨H.heap.size,2,none⟩ Z).setCell ⟨H.heap.size,3,none⟩ S) a (go O))):=by
  intro c fl a O o V J he;have B9:=o.get ac (by simp);obtain⟨z,s,u,A⟩:=da B9;have N:=am B9;refine⟨N 0,N 1,N 2,N 3,z,s,u,A,fun a0 Y Z S=>⟨kH (U.trans o) (QR _) _ _ _ _,J.Vg (fun x q=>(ji (r:=H.heap.size) _ _ _ _).block x (J.lt q) (by simp;rintro rfl;have:=V _ q;omega))⟩⟩
 have y:=U.size
 rcases hpr:b[w].Vh with _ | ⟨⟨t,p⟩,r⟩
 ·have E:b[w].Vh.length=0:=by rw[hpr];rfl
  have h:Hid (lx b w b[w]=fL b w b[w].fin b[w].Vh []):=by show _=_;simp[lx,Aa,hpr]
  rw[E]at t3;have al:¬((0:Nat):Int) > 0:=by omega
  clear hpr g;go_wp2_with (go_at_call 139;refine(pS D I w b k _ i C M).mono ?_;rintro e c ⟨a,rfl,G,m,o⟩;obtain⟨y0,y1,y2,y3,z,s,u,A,n⟩:=d.out c _ a _ o m G h.out;unfold gU)
  exact QY (v:=.tuple #[.slice a.ao (fL b w b[w].fin b[w].Vh []).1.length a.cap,gU (fL b w b[w].fin b[w].Vh []).2]) (by simp[results,results100,go_sem,z,s,u,A,gU]) rfl
   ⟨a,by rw[h.out],by rw[h.out];exact(n _ _ _ _).out.2,fun x q=>Q3 y (m x q),(n _ _ _ _).out.1⟩
 ·have E:b[w].Vh.length=r.length+1:=by rw[hpr];rfl
  obtain⟨gp,P,ag,T,d0,-,-,-⟩:=g.word 0 (by omega);obtain rfl:B=some ⟨gp,0,none⟩:=F.out.symm.trans P;have ax:gp<l.heap.size:=g.lt (by unfold Hd.blk;rw[P];rfl);have az:((b[w].Vh.length:Int) > 0):=by omega
  have ai:(0:Int)<b[w].Vh.length:=by omega
  have af:0<b[w].Vh.length:=by omega
  simp only[hpr,List.getElem_cons_zero]at d0
  cases hc:(t.toList == [40])
  ·have h:Hid (lx b w b[w]=fL b w b[w].fin b[w].Vh []):=by show _=_;simp[lx,Aa,hpr,hc]
   clear hpr g P;go_wp2_with (go_at_call 139;refine(pS D I w b k _ i C M).mono ?_;rintro e c ⟨a,rfl,G,m,o⟩;obtain⟨y0,y1,y2,y3,z,s,u,A,n⟩:=d.out c _ a _ o m G h.out;unfold gU)
   exact QY (v:=.tuple #[.slice a.ao (fL b w b[w].fin b[w].Vh []).1.length a.cap,gU (fL b w b[w].fin b[w].Vh []).2]) (by simp[results,results100,go_sem,z,s,u,A,gU]) rfl
    ⟨a,by rw[h.out],by rw[h.out];exact(n _ _ _ _).out.2,fun x q=>Q3 y (m x q),(n _ _ _ _).out.1⟩
  ·have h:Hid (lx b w b[w]=lK b w b[w]):=by show _=_;simp[lx,Aa,hpr,hc]
   clear hpr g P;go_wp2_with (go_at_call 138;refine(rJ D I w b k _ i C M ad).mono ?_;rintro e c ⟨a,rfl,G,m,o⟩;obtain⟨y0,y1,y2,y3,z,s,u,A,n⟩:=d.out c _ a _ o m G h.out;unfold gU)
   exact QY (v:=.tuple #[.slice a.ao (lK b w b[w]).1.length a.cap,gU (lK b w b[w]).2]) (by simp[results,results100,go_sem,z,s,u,A,gU]) rfl
    ⟨a,by rw[h.out],by rw[h.out];exact(n _ _ _ _).out.2,fun x q=>Q3 y (m x q),(n _ _ _ _).out.1⟩
theorem Lu:(prog.info? 61).map (fun i=>(i.zero,i.size,i.bytes))=some (some (.slice none 0 0),1,24):=by kernel_rfl
structure Ex where
 hd:Hd
 xs:List ByteArray
def v6(e:Ex):Value:=.slice e.hd.ao e.xs.length e.hd.cap
def By(l:List Ex):List Value:=l.map v6
def gn(l:List Ex):dN:=⟨61,1,l.length,By l⟩
theorem ug(l:List Ex)(e:Ex):(⟨(gn l).e,(gn l).size,(gn l).n+1,(gn l).xs++[v6 e]⟩:dN)=gn (l++[e]):=by simp[gn,By]
theorem sB(l:List Ex)(k:Nat)(h:k<l.length):(By l)[k]?=some (v6 l[k]):=by simp[By,h]
theorem jT.keptP{P:Nat->Prop}(v:jT S z6 y)(k:eK P S o)(d:∀x,z6.blk=some x->¬P x):jT o z6 y:=by
 rcases v with v | ⟨g,a,b,t,c,e,f⟩
 ·exact Q1 v
 ·exact QV ⟨g,a,b,t,c,k.get e (d g (by unfold Hd.blk;rw[c];rfl)),f⟩
structure AW(w:World)(b:Nat)(H:Nat->Hd)(e:Ex):Prop where
 view:jT w e.hd e.xs
 adr:∃ad,e.hd.ao=some ad
 far:∀x,e.hd.blk=some x->x<w.heap.size/\x≠b/\¬f9 H x
theorem AW.turned{g:Nat->Hd}{e:Ex}(h:AW S n d e)(t:aA n S d o g):AW o n g e:=by
 refine⟨h.view.keptP t.1 (fun x c=>?_),h.adr,fun x c=>?_⟩
 ·obtain⟨_,a,b⟩:=h.far x c
  rintro (e | e)
  ·exact a e
  ·exact b e
 ·obtain⟨f,a,b⟩:=h.far x c
  exact⟨QX f t.1.size,a,t.fresh x f b⟩
theorem AW.Vb{e:Ex}(h:AW S n d e)(k:ab [] S o):AW o n d e :=
 ⟨h.view.Vb k,h.adr,fun x a=>⟨QX (h.far x a).1 k.size,(h.far x a).2⟩⟩
def pW(vs:List ByteArray)(be:List Ex):Nat->dN
 | 0=>aB vs
 | 1=>gn be
 | _+2=>aB []
def oU(vs:List ByteArray)(be:List Ex)(H:Nat->Hd):List Value:=[.slice (H 0).ao vs.length (H 0).cap,.slice (H 1).ao be.length (H 1).cap]
structure ma(w:World)(b:Nat)(vs:List ByteArray)(be:List Ex)(H:Nat->Hd):Prop where
 bag:a8 w b 343 (oU vs be H) (pW vs be) H
 len:be.length=vs.length
 exs:∀e∈be,AW w b H e
theorem ma.Vb{a:List Ex}(h:ma S n y a d)(k:ab [] S o):ma o n y a d:=⟨h.bag.Vb k,h.len,fun e b=>(h.exs e b).Vb k⟩
theorem ma.cells{a:List Ex}(h:ma S n y a d) :
  S.cell? ⟨n,0,none⟩=some (.slice (d 0).ao y.length (d 0).cap)/\S.cell? ⟨n,1,none⟩=some (.slice (d 1).ao a.length (d 1).cap):=⟨h.bag.cell 0,h.bag.cell 1⟩
def Dv(a b:List ByteArray):Bool:=a.map (·.toList)==b.map (·.toList)
theorem Nm(h:y.length≠N.length):Dv y N=false:=by
 unfold Dv;rw[Rh];intro e;have:=congrArg List.length e;simp at this;exact h this
theorem OS(a:f<y.length)(b:f<N.length)(h:(y[f].toList==N[f].toList)=false):Dv y N=false:=by
 unfold Dv;rw[Rh]at h ⊢;intro e;have:=congrArg (fun l=>l[f]?) e;simp[a,b]at this;exact h this
theorem Gf(c:y.length=N.length)(h:∀k (b:k<y.length) (a:k<N.length),(y[k].toList==N[k].toList)=true):Dv y N=true:=by
 unfold Dv;rw[Ty]
 apply UN
 ·simpa using c
 ·intro k b a
  simp at b a ⊢;exact Ty.1 (h k b a)
theorem yo(W:jT H z5 T)(S:jT H i l)(O:T.length<=1073741824)(P:l.length<=1073741824) :
  Calls prog 211 #[.slice z5.ao T.length z5.cap,.slice i.ao l.length i.cap] H fun e M=>e=.returned (.bool (Dv T l))/\ab [] H M:=by
 obtain⟨G,z⟩:=z5;obtain⟨I,x⟩:=i
 by_cases d:T.length=l.length
 ·have V:((T.length:Int) != l.length)=false:=by simp[d]
  by_cases D:T.length=0
  ·have c:Hid (Dv T l=true):=Gf d (fun k z5 i=>by omega)
   have Z:¬(0:Int)<T.length:=by omega
   go_enter func211,ntmps211;go_wp2;refine SZ 1 ?_;rw[Tr];go_wp2;go_ret;exact⟨aD c.out.symm,ab.refl _ _⟩
  ·rcases W with rfl | ⟨g,q,L,t,C,A,u,J,N⟩
   ·simp at D
   rcases S with rfl | ⟨Y,h,y,t',B,E,w,Q,K⟩
   ·simp at d;simp[d]at D
   simp only at C B J N Q K;subst C;subst B;go_enter func211,ntmps211;go_wp2
   go_loopg [5] T.length (fun gk a wr=>∃k:Nat,k<=T.length/\gk=T.length-k/\a=.int .i64 k/\Hid (∀a (o:a<T.length) (n:a<l.length),a<k->(T[a].toList==l[a].toList)=true)/\ab [] H wr)
   case atStart=>exact⟨0,by omega,by omega,rfl,fun a _ _ U=>by omega,ab.refl _ _⟩
   case round =>
    obtain⟨k,hk,hg,rfl,b,r⟩:=hrel
    by_cases p:k<T.length
    ·have f:k<l.length:=by omega
     have c1:wr.cell? ⟨g,q+k,none⟩=some (.string T[k]):=(aa (r.get A (by simp)) (q+k)).trans (u k T[k] (QP p));have c2:wr.cell? ⟨Y,h+k,none⟩=some (.string l[k]):=(aa (r.get E (by simp)) (h+k)).trans (w k l[k] (QP f));have R:(k:Int)<T.length:=by omega
     have F:(k:Int)<l.length:=by omega
     have m:=hI (OS k p f)
     have j:Hid ((T[k].toList==l[k].toList)=true->∀a (o:a<T.length) (n:a<l.length),a<k+1->(T[a].toList==l[a].toList)=true):=by
      intro X a o n U
      by_cases e:a=k
      ·subst e;exact X
      ·exact b.out a o n (by omega)
     clear b u w A E
     cases s:(T[k].toList==l[k].toList)
     ·have c:=hI (m.out s)
      have v:(T[k].toList != l[k].toList)=true:=by simp[bne,s]
      clear m j d
      go_upto_region 6 with fail
      go_quiet (fail)
      go_wp2;go_ret;exact⟨aD c.out.symm,r.drewN _⟩
     ·have c:=hI (j.out s)
      have v:(T[k].toList != l[k].toList)=false:=by simp[bne,s]
      clear m j d
      go_upto_region 6 with fail
      go_quiet (fail)
      go_wp2
      go_roundg (T.length-(k+1))
      case measure=>omega
      case rel=>exact⟨k+1,by omega,rfl,by go_num,c.out,r.drewN _⟩
    ·have c:Hid (Dv T l=true):=Gf d (fun a o n=>b.out a o n (by omega))
     clear b u w;go_wp2;go_ret;exact⟨aD c.out.symm,r⟩
 ·have c:Hid (Dv T l=false):=Nm d
  have V:((T.length:Int) != l.length)=true:=by simp[bne];omega
  go_enter func211,ntmps211;go_wp2;go_ret;exact⟨aD c.out.symm,ab.refl _ _⟩
theorem JK(B:List Ex)(H:Nat->Hd)(x:ByteArray)(d:World)(h:ma d w l B H)(C:l.length<=1073741824) :
  Calls prog 278 #[.pointer (some ⟨w,0,none⟩),.string x] d fun e r=>e=.returned (.int .i64 (nB (pu l x)))/\r=d:=by
 obtain⟨t,u⟩:=h.cells;have j:=h.len;have b:aw d (H 0) (aB l):=h.bag.own 0;rw[j]at u;go_enter func278,ntmps278;go_wp2
 go_loopg [5] l.length (fun g i wr=>∃k:Nat,k<=l.length/\g=l.length-k/\i=.int .i64 k/\Hid (∀i,i<k->((l.getD i ⟨#[]⟩).toList==x.toList)=false)/\wr=d)
 case atStart=>exact⟨0,by omega,by omega,rfl,fun i o=>by omega,rfl⟩
 case round =>
  obtain⟨k,D,F,rfl,a,rfl⟩:=hrel
  by_cases c:k<l.length
  ·rcases b.Vm with ⟨_,z,_⟩ | ⟨g,q,p,-,s,-⟩
   ·have:l.length=0:=z
    omega
   ·have E:=b.cell p k (.string l[k]) (tC l k c)
    rw[p]at t;have f:=hI (qm l k c);have v:l.length<=(H 0).cap:=s;generalize l[k]=y at *
    cases n:(y.toList==x.toList)
    ·have A:Hid (∀i,i<k+1->((l.getD i ⟨#[]⟩).toList==x.toList)=false):=by
      intro i o
      by_cases e:i=k
      ·subst e;rw[f.out];exact n
      ·exact a.out i (by omega)
     clear f h b;go_wp2
     go_roundg (l.length-(k+1))
     case measure=>omega
     case rel=>exact⟨k+1,by omega,rfl,by go_num,A,rfl⟩
    ·have m:Hid (pu l x=some k):=nV c (by rw[f.out];exact n) a.out
     clear f h b;go_wp2;go_ret;exact⟨QN (by rw[m.out];rfl),rfl⟩
  ·have m:Hid (pu l x=none):=mI (fun i o=>a.out i (by omega))
   clear h b;go_wp2;go_ret;exact⟨QN (by rw[m.out];rfl),rfl⟩
theorem tE{P:Program}{A:Array Oper}{k:List Oper}{o:Oper}{a:Act}{Q:Exit->Act->World->Prop}(U:o.guard=none)(s x:Operand)(t:TypeId)(G:o.op=Op.call { callee:=Callee.builtin Builtin.append,args:=#[s,x],argTypes:=#[t,t] })(i:TypeInfo)(z:Value)(d:Nat)(h:Hd)(r:dN)(K:P.underlying t=some (.slice r.e))(L:P.info? r.e=some i)(V:i.zero=some z)(T:i.size=r.size)(W:i.bytes=d)(J:z.cells.size=r.size)(R:0<r.size)(M:a.eval s=.slice h.ao r.n h.cap)(w:aw H h r)(D:Addr)(m c:Nat)(b:List Value)(Y:a.eval x=.slice (some D) m c)(O:b.length=m*r.size)(X:∀j u,b[j]?=some u->H.cell? (D.add j)=some u)(F:∀u∈b,u.oneCell'=true)(N:r.n+m<=maxLen)(S:(r.n+m)*d<=140737488355328)(I:∀f p,aw p f ⟨r.e,r.size,r.n+m,r.xs++b⟩->H.grownBy p h.blk->(f.blk=h.blk∨f.blk=some H.heap.size)->wpList P A Q k (a.put o.dst (.slice f.ao (r.n+m) f.cap)) p) :
  wpList P A Q (o :: k) a H:=by
 refine wpList_append_own_at H U s x t G 0 r.e i z r.size d K L V T W J R (.slice h.ao r.n h.cap) r.n r.xs M w D m c b Y O X F N S (Ro _) ?_;intro v' p E B Z q;rw[Ar]at B q
 rcases E.2 with ⟨y,v⟩ | ⟨g,l,C,y,v⟩
 ·have:=I ⟨none,0⟩ p ⟨E.1,Q1 ⟨by rw[v],v⟩⟩ B (by rw[y]at q;exact q)
  rw[y];rw[v]at this;exact this
 ·have:=I ⟨some ⟨g,0,none⟩,l⟩ p ⟨E.1,QV ⟨g,l,C,rfl,v⟩⟩ B (by rw[y]at q;exact q)
  rw[y];exact this
def G8(vs:List ByteArray)(bs:List (List ByteArray))(x:ByteArray):List ByteArray:=match pu vs x with | none=>[x] | some i=>bs.getD i []
def ly(vs:List ByteArray)(bs:List (List ByteArray)):List ByteArray->List ByteArray->List ByteArray
 | [],acc=>acc
 | x :: r,acc=>if acc.length<=32 then ly vs bs r (acc++G8 vs bs x) else acc
def nY(vs:List ByteArray)(bs:List (List ByteArray))(sy:List ByteArray):List ByteArray:=ly vs bs sy []
theorem N4(a:f<T.length)(b:l.length<=32):ly x L (T.drop f) l=ly x L (T.drop (f+1)) (l++G8 x L T[f]):=by
 rw[Rf a,ly,QW b]
theorem Jw(a:¬l.length<=32):ly x L T l=l:=by
 cases T with
 | nil=>rfl
 | cons b r=>rw[ly,QT a]
theorem Mg(a:¬f<T.length):ly x L (T.drop f) l=l:=by
 rw[R8 (by omega)];rfl
theorem KJ(c:ByteArray)(M:Nat)(a:1<=M)(h:∀b∈L,b.length<=M):(G8 x L c).length<=M:=by
 unfold G8
 split
 ·simpa using a
 ·next i _ =>
  rw[QQ]
  cases e:L[i]? with
  | none=>simp
  | some b=>simpa using h b (R4 e)
theorem E5(e:1<=f)(h:∀b∈L,b.length<=f)(c a:List ByteArray)(d:a.length<=32+f):(ly x L c a).length<=32+f:=by
 induction c generalizing a with
 | nil=>exact d
 | cons g r i =>
  rw[ly]
  split
  ·have:=KJ x L g f e h
   exact i _ (by simp;omega)
  ·exact d
theorem Jv(c:1<=f)(h:∀b∈L,b.length<=f)(a:List ByteArray):(nY x L a).length<=32+f:=E5 x L f c h a [] (by simp)
theorem JE:(⟨(aB T).e,(aB T).size,(aB T).n+l.length,(aB T).xs++cN l⟩:dN)=aB (T++l):=by simp[aB,cN]
theorem jT.cells{h:Addr}(v:jT S z6 y)(e:z6.ao=some h):∀j u,(cN y)[j]?=some u->S.cell? (h.add j)=some u:=by
 intro j u f
 rcases v with rfl | ⟨g,a,l,t,d,k,m,-⟩
 ·simp[cN]at f
 ·rw[e]at d
  cases d
  have b:(y[j]?).map Value.string=some u:=by simpa [cN] using f
  cases c:y[j]? with
  | none=>rw[c]at b;cases b
  | some x =>
   rw[c]at b;cases b
   have:(⟨g,a,none⟩:Addr).add j=⟨g,a+j,none⟩:=by
    simp only[Addr.add]
    split
    ·next i=>subst i;rfl
    ·rfl
   rw[this,aa k];exact m j x c
theorem pT(d:List Ex)(H:Nat->Hd)(hy:Hd)(f:List ByteArray)(z:World)(h:ma z w l d H)(hl:l.length<=10000)(an:∀e∈d,e.xs.length<=10000)(hv:jT z hy f)(ag:f.length<=10000) :
  Calls prog 274 #[.pointer (some ⟨w,0,none⟩),.slice hy.ao f.length hy.cap] z fun e w'=>∃o:Hd,
   e=.returned (.slice o.ao (nY l (d.map Ex.xs) f).length o.cap)/\aw w' o (aB (nY l (d.map Ex.xs) f))/\(∀x,o.blk=some x->z.heap.size<=x)/\ab [] z w':=by
 obtain⟨i0,hi,S,T,N⟩:=Re js;obtain⟨ao,a0⟩:=hy
 rcases hv with rfl | ⟨g,Z,a2,t,e1,e2,e3,e4,e5⟩
 ·clear ag
  go_enter func274,ntmps274;go_wp2;refine SZ 1 ?_;rw[Tr];go_wp2;go_ret;exact⟨⟨none,0⟩,rfl,QZ _ _ _ _,by intro x s;simp[Hd.blk]at s,ab.refl _ _⟩
 simp only at e1 e4 e5;subst e1;obtain⟨R,HR⟩:∃R,Hid (R=nY l (d.map Ex.xs) f):=⟨_,rfl⟩
 rw[<-HR.out];go_enter func274,ntmps274;go_wp2
 go_loopg [5,6] f.length (fun gk sv i wr=>∃(k:Nat) (o:Hd) (a:List ByteArray),k<=f.length/\gk=f.length-k/\i=.int .i64 k/\sv=.slice o.ao a.length o.cap/\a.length<=10032/\Hid (R=ly l (d.map Ex.xs) (f.drop k) a)/\aw wr o (aB a)/\(∀x,o.blk=some x->z.heap.size<=x)/\ab [] z wr)
 case atStart=>exact⟨0,⟨none,0⟩,[],by omega,by omega,rfl,rfl,by simp,HR.out,QZ _ _ _ _,by intro x s;simp[Hd.blk]at s,ab.refl _ _⟩
 case round =>
  obtain⟨k,o,a,hk,hg,rfl,rfl,a1,r,M,L,I⟩:=hrel;have X:=h.Vb I
  by_cases J:k<f.length
  ·by_cases ha:a.length<=32
   ·have al:(a.length:Int)<=32:=by omega
    have c2:wr.cell? ⟨g,Z+k,none⟩=some (.string f[k]):=(aa (I.get e2 (by simp)) (Z+k)).trans (e3 k f[k] (QP J));have A:=hI (r.out.trans (N4 l (d.map Ex.xs) f a k J ha));have P:=hI (fun w1 h1=>JK w l d H f[k] w1 h1 (by omega));clear r e3;generalize f[k]=y at *
    rcases hp:pu l y with _ | p
    ·have c:Hid (R=ly l (d.map Ex.xs) (f.drop (k+1)) (a++[y])):=by show _=_;rw[A.out];simp[G8,hp]
     have O:=M.Vg (fun x s=>((ab.refl [] wr).alloc (.cells #[.string y] 9)).block x (M.lt s) (by simp));clear A
     go_upto_region 7 with (go_at_call 278;refine(P.out _ X).mono ?_;rintro e w3 ⟨rfl,D⟩;rw[D,hp];simp only[nB])
     go_wp2_with (at_builtin;refine aM _ rfl (.tmp 27) (.tmp 32) 61 rfl i0 (.string ⟨#[]⟩) 16 o (aB a) underlying61 hi S T N rfl Rc rfl (by exact O) ⟨_,0,none⟩ 1 1 [.string y] rfl rfl ?d1 ?d2 Rc ?d3 ?d4 ?_)
     case d1=>intro j u hj;match j,hj with | 0,hj=>simp at hj;subst hj;simp[Addr.add]
     case d2=>intro u U;simp at U;subst U;rfl
     case d3=>simp only[aB];unfold maxLen;omega
     case d4=>simp only[aB];omega
     intro g5 V w5 v m b;rw[dr a y]at v;have af:=I.alloc (.cells #[.string y] 9);have F:=af.grown m L
     have W:z.heap.size<=g5:=by
      rcases b with e | e
      ·exact L g5 e
      ·have:=af.size;simp at e this;omega
     have E:Hid ((aB a).n+1=(a++[y]).length):=by show _=_;simp[aB]
     rw[E.out];clear m b O;go_wp2
     go_roundg (f.length-(k+1))
     case measure=>omega
     case rel=>exact⟨k+1,⟨some ⟨g5,0,none⟩,V⟩,a++[y],by omega,rfl,by go_num,rfl,by simp;omega,c.out,v,by intro x s;simp[Hd.blk]at s;omega,F⟩
    ·have aT:p<l.length:=by
      have:=Rz hp;simpa using this
     have aS:=h.len;have B:p<d.length:=by omega
     have c:Hid (R=ly l (d.map Ex.xs) (f.drop (k+1)) (a++d[p].xs)):=by show _=_;rw[A.out];simp[G8,hp,B]
     have K:=X.exs d[p] (Rb B);have ai:=an d[p] (Rb B);obtain⟨ad,C⟩:=K.adr;have ac:=K.view.cells C;obtain⟨s0,s1⟩:=X.cells;have G:aw wr (H 1) (gn d):=X.bag.own 1
     rcases G.Vm with ⟨_,h0,_⟩ | ⟨gb,ax,eb,-,ar,-⟩
     ·have:d.length=0:=h0
      omega
     have cb:=G.cell eb p (v6 d[p]) (sB d p B);have az:d.length<=(H 1).cap:=ar;rw[eb]at s1;unfold v6 at cb;rw[C]at cb;have Y:=hI ac;clear A K C ac G eb;generalize d[p]=ex at *;obtain⟨ap,q⟩:=ex;simp only at cb ai c Y
     go_upto_region 8 with (go_at_call 278;refine(P.out _ X).mono ?_;rintro e w3 ⟨rfl,D⟩;rw[D,hp];simp only[nB])
     go_wp2_with (at_builtin;refine tE _ rfl (.tmp 34) (.tmp 41) 61 rfl i0 (.string ⟨#[]⟩) 16 o (aB a) underlying61 hi S T N rfl Rc rfl (by exact M) ad q.length ap.cap (cN q) rfl (by simp[cN,aB]) Y.out ?d2 ?d3 ?d4 ?_)
     case d2=>intro u U;simp[cN]at U;obtain⟨_,_,rfl⟩:=U;rfl
     case d3=>simp only[aB];unfold maxLen;omega
     case d4=>simp only[aB];omega
     intro Q w5 v m b;rw[JE a q]at v;have F:=I.grown m L
     have W:∀x,Q.blk=some x->z.heap.size<=x:=by
      intro x s
      rcases b with e | e
      ·exact L x (e ▸ s)
      ·rw[e]at s;cases s;exact I.size
     have E:Hid ((aB a).n+q.length=(a++q).length):=by show _=_;simp[aB]
     rw[E.out];clear m b;go_wp2
     go_roundg (f.length-(k+1))
     case measure=>omega
     case rel=>exact⟨k+1,Q,a++q,by omega,rfl,by go_num,rfl,by simp;omega,c.out,v,W,F⟩
   ·have al:¬(a.length:Int)<=32:=by omega
    have c:Hid (a=R):=(r.out.trans (Jw _ _ _ _ ha)).symm;clear r e3;go_wp2;go_ret;exact⟨o,by rw[<-c.out];rfl,by rw[<-c.out];exact M,L,I⟩
  ·have c:Hid (a=R):=(r.out.trans (Mg _ _ _ _ _ J)).symm
   clear r e3;go_wp2;go_ret;exact⟨o,by rw[<-c.out];rfl,by rw[<-c.out];exact M,L,I⟩
def mW(s:St)(e:List ByteArray)(S:List ByteArray×List (List ByteArray)):Int×List ByteArray×List (List ByteArray) :=
 if(s.kind==3)=true then(if Dv (nY S.1 S.2 s.U6) e=true then(0,S) else(8,S))
 else match e with
  | []=>(7,S)
  | x :: r=>if(x.toList==(iz s).toList)=true then(0,S.1++[aL s],S.2++[r]) else(7,S)
structure rd(w:World)(b:Nat)(H:Nat->Hd)(h:Hd)(l:List ByteArray):Prop where
 view:jT w h l
 far:∀x,h.blk=some x->x<w.heap.size/\x≠b/\¬f9 H x
theorem rd.Vb(f:rd S n d z6 y)(k:ab [] S o):rd o n d z6 y :=
 ⟨f.view.Vb k,fun x a=>⟨QX (f.far x a).1 k.size,(f.far x a).2⟩⟩
def jb(g off cap:Nat)(r:List ByteArray):Ex:=⟨⟨if cap=1 then some ⟨g,off,none⟩ else some ⟨g,off+1,none⟩,cap-1⟩,r⟩
theorem MC:(jb D I w l).hd.blk=some D:=by unfold jb Hd.blk;simp only;split <;> rfl
theorem Og{x:ByteArray}(h:rd S n d ⟨some ⟨a,g,none⟩,f⟩ (x :: y)):AW S n d (jb a g f y):=by
 have r:(jb a g f y).hd.blk=some a:=by unfold jb Hd.blk;simp only;split <;> rfl
 refine⟨?_,?_,fun c b=>h.far c (by rw[r]at b;exact b)⟩
 ·by_cases k:y=[]
  ·subst k;exact Q1 rfl
  ·rcases h.view with o | ⟨v,i,e,t,l,q,s,p,m⟩
   ·cases o
   ·cases l
    have u:0<y.length:=TU.2 k;simp only[List.length_cons]at p;refine QV ⟨a,g+1,e,t,by simp only[jb];rw[QT (by omega)],q,fun j c b=>?_,by simp only[jb];omega,by simp only[jb]at m ⊢;omega⟩;have:=s (j+1) c (by simpa [jb] using b);rw[show g+1+j=g+(j+1) by omega];exact this
 ·unfold jb
  simp only
  split
  ·exact⟨_,rfl⟩
  ·exact⟨_,rfl⟩
theorem Nr(a:List Ex)(H:Nat->Hd)(s:St)(o C Q:Hd)(E:List ByteArray)(c:World)(h:ma c w l a H)(hl:l.length<=9999)(al:∀e∈a,e.xs.length<=10000)(hs:jT c o s.U6)(a7:s.U6.length<=10000)(hx:rd c w H Q E)(bv:E.length<=10000) :
  Calls prog 272 #[.pointer (some ⟨w,0,none⟩),ee s o C,.slice Q.ao E.length Q.cap] c fun e f=>∃(T:List Ex) (H':Nat->Hd),
   e=.returned (.int .i64 (mW s E (l,a.map Ex.xs)).1)/\ma f w (mW s E (l,a.map Ex.xs)).2.1 T H'/\T.map Ex.xs=(mW s E (l,a.map Ex.xs)).2.2/\aA w c H f H'/\∀e∈T,e∈a∨e.hd.blk=Q.blk:=by
 obtain⟨i0,hi,a5,a6,a0⟩:=Re js;obtain⟨i1,az,aT,bd,bc⟩:=Re Lu;have bl:a.length<=9999:=by have:=h.len;omega
 unfold ee;obtain⟨W,hW⟩:∃W,W=c.alloc (.cells #[.int .i64 s.kind,.string s.label,.slice o.ao s.U6.length o.cap,.slice C.ao s.Vh.length C.cap,.string s.fin.file,.int .i64 s.fin.line,.int .i64 s.fin.col,.int .i64 s.til] 158):=⟨_,rfl⟩
 have K:ab [] c W:=by rw[hW];exact(ab.refl [] _).alloc _
 have B:W.heap[c.heap.size]?=some (.cells #[.int .i64 s.kind,.string s.label,.slice o.ao s.U6.length o.cap,.slice C.ao s.Vh.length C.cap,.string s.fin.file,.int .i64 s.fin.line,.int .i64 s.fin.col,.int .i64 s.til] 158 (0,0)):=by rw[hW];exact QS _ _
 have HW:=hI hW.symm;have u0:W.cell? ⟨c.heap.size,0,none⟩=some (.int .i64 s.kind):=by rw[aa B];rfl
 have u1:W.cell? ⟨c.heap.size,1,none⟩=some (.string s.label):=by rw[aa B];rfl
 have u2:W.cell? ⟨c.heap.size,2,none⟩=some (.slice o.ao s.U6.length o.cap):=by rw[aa B];rfl
 have u3:W.cell? ⟨c.heap.size,3,none⟩=some (.slice C.ao s.Vh.length C.cap):=by rw[aa B];rfl
 have u4:W.cell? ⟨c.heap.size,4,none⟩=some (.string s.fin.file):=by rw[aa B];rfl
 have u5:W.cell? ⟨c.heap.size,5,none⟩=some (.int .i64 s.fin.line):=by rw[aa B];rfl
 have u6:W.cell? ⟨c.heap.size,6,none⟩=some (.int .i64 s.fin.col):=by rw[aa B];rfl
 have u7:W.cell? ⟨c.heap.size,7,none⟩=some (.int .i64 s.til):=by rw[aa B];rfl
 have V:=h.Vb K;have M:=hs.Vb K;have Y:=hx.Vb K;clear hW
 cases P:(s.kind==3)
 ·rcases E with _ | ⟨x,r⟩
  ·have v:Hid (mW s [] (l,a.map Ex.xs)=(7,l,a.map Ex.xs)):=by show _=_;simp[mW,P]
   clear u1 u2 u3 u4 u5 u6 u7;go_enter func272,ntmps272
   go_upto_region 1 with fail
   rw[HW.out]
   go_upto_region 5 with fail
   go_quiet (fail)
   go_wp2;go_ret;exact⟨a,H,QN (by rw[v.out]),by rw[v.out];exact V.Vb ((ab.refl [] _).drewN _),by rw[v.out],(aA.refl _ _ _).Vb (K.drewN _),fun _ q=>Q1 q⟩
  ·obtain⟨bk,b⟩:=Q
   rcases Y.view with an | ⟨g,d,bs,t,e1,e2,e3,e4,e5⟩
   ·cases an
   simp only at e1 e4 e5;subst e1;have bg:¬((r.length:Int)+1==0)=true:=by simp;omega
   have HN:Hid ((x :: r).length=r.length+1):=rfl;have bp:(0:Int)<(r.length:Int)+1:=by omega
   have bj:(1:Int)<=(r.length:Int)+1:=by omega
   rw[HN.out]at *;have cx:W.cell? ⟨g,d,none⟩=some (.string x):=by have:=(aa e2 d).trans (by simpa using e3 0 x rfl);exact this
   have bo:=ae e2;have TC:=AI s o C;unfold ee at TC;have ac:=hI TC
   have HC:Hid (∀f,ab [] W.drew f->f.cell? ⟨g,d,none⟩=some (.string x)/\f.cell? ⟨c.heap.size,0,none⟩=some (.int .i64 s.kind)/\f.cell? ⟨c.heap.size,1,none⟩=some (.string s.label)/\f.cell? ⟨c.heap.size,2,none⟩=some (.slice o.ao s.U6.length o.cap)/\f.cell? ⟨c.heap.size,3,none⟩=some (.slice C.ao s.Vh.length C.cap)/\f.cell? ⟨c.heap.size,4,none⟩=some (.string s.fin.file)/\f.cell? ⟨c.heap.size,5,none⟩=some (.int .i64 s.fin.line)/\f.cell? ⟨c.heap.size,6,none⟩=some (.int .i64 s.fin.col)/\f.cell? ⟨c.heap.size,7,none⟩=some (.int .i64 s.til)):=by
    intro f k;have q:=k.get (show W.drew.heap[c.heap.size]?=_ from B) (by simp);have q2:=k.get (show W.drew.heap[g]?=_ from e2) (by simp);refine⟨(aa q2 d).trans (by simpa using e3 0 x rfl),?_,?_,?_,?_,?_,?_,?_,?_⟩ <;> (rw[aa q];rfl)
   clear TC e3;go_enter func272,ntmps272
   go_upto_region 1 with fail
   rw[HW.out]
   go_upto_region 5 with fail
   cases hc:(x.toList==(iz s).toList)
   ·have v:Hid (mW s (x :: r) (l,a.map Ex.xs)=(7,l,a.map Ex.xs)):=by show _=_;simp[mW,P,hc]
    have a2:(x.toList != (iz s).toList)=true:=by simp[bne,hc]
    go_region_held3 (fun f=>f.cell? ⟨g,d,none⟩=some (.string x)/\f.cell? ⟨c.heap.size,0,none⟩=some (.int .i64 s.kind)/\f.cell? ⟨c.heap.size,1,none⟩=some (.string s.label)/\f.cell? ⟨c.heap.size,2,none⟩=some (.slice o.ao s.U6.length o.cap)/\f.cell? ⟨c.heap.size,3,none⟩=some (.slice C.ao s.Vh.length C.cap)/\f.cell? ⟨c.heap.size,4,none⟩=some (.string s.fin.file)/\f.cell? ⟨c.heap.size,5,none⟩=some (.int .i64 s.fin.line)/\f.cell? ⟨c.heap.size,6,none⟩=some (.int .i64 s.fin.col)/\f.cell? ⟨c.heap.size,7,none⟩=some (.int .i64 s.til)) (go_keep) (first | (go_at_call 191;refine(ac.out _ (by exact M.Vb (ab.refl [] _).drew) (by omega)).mono ?_;rintro e U ⟨rfl,F⟩;obtain⟨x0,x1,x2,x3,x4,x5,x6,x7,x8⟩:=HC.out U F))
    all_goals
     clear u0 u1 u2 u3 u4 u5 u6 u7 cx;go_wp2;go_ret;exact⟨a,H,QN (by rw[v.out]),by rw[v.out];exact V.Vb (((ab.refl [] _).drew).trans F),by rw[v.out],(aA.refl _ _ _).Vb (K.drew.trans F),fun _ q=>Q1 q⟩
   ·have v:Hid (mW s (x :: r) (l,a.map Ex.xs)=(0,l++[aL s],a.map Ex.xs++[r])):=by show _=_;simp[mW,P,hc]
    have a2:(x.toList != (iz s).toList)=false:=by simp[bne,hc]
    have VA:=mq s o C;unfold ee at VA;have ax:=hI VA;clear VA
    go_region_held3 (fun f=>f.cell? ⟨g,d,none⟩=some (.string x)/\f.cell? ⟨c.heap.size,0,none⟩=some (.int .i64 s.kind)/\f.cell? ⟨c.heap.size,1,none⟩=some (.string s.label)/\f.cell? ⟨c.heap.size,2,none⟩=some (.slice o.ao s.U6.length o.cap)/\f.cell? ⟨c.heap.size,3,none⟩=some (.slice C.ao s.Vh.length C.cap)/\f.cell? ⟨c.heap.size,4,none⟩=some (.string s.fin.file)/\f.cell? ⟨c.heap.size,5,none⟩=some (.int .i64 s.fin.line)/\f.cell? ⟨c.heap.size,6,none⟩=some (.int .i64 s.fin.col)/\f.cell? ⟨c.heap.size,7,none⟩=some (.int .i64 s.til)) (go_keep) (first | (go_at_call 191;refine(ac.out _ (by exact M.Vb (ab.refl [] _).drew) (by omega)).mono ?_;rintro e U ⟨rfl,F⟩;obtain⟨x0,x1,x2,x3,x4,x5,x6,x7,x8⟩:=HC.out U F))
    all_goals
     have L:=V.Vb (((ab.refl [] _).drew).trans F);have br:=L.bag.lt;have ar:=L.bag.free;obtain⟨m0,m1⟩:=L.cells;have a4:=M.Vb (((ab.refl [] _).drew).trans F);clear u0 u1 u2 u3 u4 u5 u6 u7 cx x0
     go_upto_region 7 with fail
     have s4:Hid ((aB l).n+1<=maxLen):=by show _<=_;simp only[aB];unfold maxLen;omega
     have s5:Hid (((aB l).n+1)*16<=140737488355328):=by show _<=_;simp only[aB];omega
     have s3:Hid (∀u∈([.string (aL s)]:List Value),u.oneCell'=true):=by intro u hu;simp at hu;subst hu;rfl
     have a3:Hid (∀I,ab [] U.drew I->ma I w l a H/\ma (I.alloc (.cells #[.string (aL s)] 9)) w l a H/\∀j u,([.string (aL s)]:List Value)[j]?=some u->(I.alloc (.cells #[.string (aL s)] 9)).cell? ((⟨I.heap.size,0,none⟩:Addr).add j)=some u):=by
      intro I k;have q:=L.Vb (((ab.refl [] U).drew).trans k);refine⟨q,q.Vb ((ab.refl [] _).alloc _),fun j u G=>?_⟩;have P:(I.alloc (.cells #[.string (aL s)] 9)).heap[I.heap.size]?=some (.cells #[.string (aL s)] 9 (0,0)):=QS _ _;rw[bL,aa P];simpa using G
     have ba:Hid (∀j,j≠0->pW (l++[aL s]) a j=pW l a j):=by
      intro j G
      match j,G with
      | 0,G=>exact absurd rfl G
      | 1,_=>rfl
      | m+2,_=>rfl
     go_region_law (first | (refine cd rfl (.tmp 32) (.tmp 35) 61 rfl i0 (.string ⟨#[]⟩) 16 (H 0) (aB l) underlying61 hi a5 a6 a0 rfl Rc (by simp[Act.eval] <;> rfl) (y1.bag.own 0) ⟨_,0,none⟩ 1 1 [.string (aL s)] (by simp[Act.eval] <;> rfl) rfl y2 s3.out Rc s4.out s5.out ?_;intro J i w5 af ag D;obtain⟨k5,f5,HP⟩:=a8.app y1.bag (cs':=oU (l++[aL s]) a (g9 H 0 ⟨some ⟨J,0,none⟩,i⟩)) (rows':=pW (l++[aL s]) a) 0 0 J i ((aB l).n+1) _ af (dr l (aL s)) ag (by simpa using D) ba.out (.slice (H 0).ao l.length (H 0).cap) rfl (by simp[oU,g9,aB]);clear af ag D) | (go_simp;go_at_call 189;refine(ax.out _ (by exact a4.Vb (ab.refl [] _).drew) (by omega)).mono ?_;rintro e I ⟨rfl,k4⟩;obtain⟨y0,y1,y2⟩:=a3.out I k4;obtain⟨n0,n1⟩:=y0.cells;obtain⟨p0,p1⟩:=y1.cells))
     all_goals
      generalize hX:w5.setCell ⟨w,0,none⟩ (.slice (some ⟨J,0,none⟩) ((aB l).n+1) i)=X at HP ⊢;have T5:Hid (aA w c H X (g9 H 0 ⟨some ⟨J,0,none⟩,i⟩)):=(((HP.out.2.first ((ab.refl [] _).alloc _)).first (((ab.refl [] U).drew).trans k4)).first (K.drew.trans F));have D5:=HP.out.1;have q1:=D5.cell 1;have aS:=D5.free;have bw:=D5.lt;simp only[oU,List.getElem?_cons_succ,List.getElem?_cons_zero]at q1;clear hX k5 f5 n0 n1 p0 p1 y0 y1 y2 m0 m1 ar x1 x2 x3 x4 x5 x6 x7 x8
      go_upto_region 8 with fail
      have hD:Hid (a8 (X.alloc (.cells #[v6 (jb g d b r)] 61)).drew w 343 (oU (l++[aL s]) a (g9 H 0 ⟨some ⟨J,0,none⟩,i⟩)) (pW (l++[aL s]) a) (g9 H 0 ⟨some ⟨J,0,none⟩,i⟩)):=D5.Vb ((ab.refl [] X).alloc _).drew
      have s2:Hid (∀j u,([v6 (jb g d b r)]:List Value)[j]?=some u->(X.alloc (.cells #[v6 (jb g d b r)] 61)).drew.cell? ((⟨X.heap.size,0,none⟩:Addr).add j)=some u):=by
       intro j u G;have P:(X.alloc (.cells #[v6 (jb g d b r)] 61)).drew.heap[X.heap.size]?=some (.cells #[v6 (jb g d b r)] 61 (0,0)):=QS _ _;rw[bL,aa P];simpa using G
      have S:Hid (∀u∈([v6 (jb g d b r)]:List Value),u.oneCell'=true):=by intro u hu;simp at hu;subst hu;rfl
      have a1:Hid ((gn a).n+1<=maxLen):=by show _<=_;simp only[gn];unfold maxLen;omega
      have bf:Hid (((gn a).n+1)*24<=140737488355328):=by show _<=_;simp only[gn];omega
      have ai:Hid (∀j,j≠1->pW (l++[aL s]) (a++[jb g d b r]) j=pW (l++[aL s]) a j):=by
       intro j G
       match j,G with
       | 0,_=>rfl
       | 1,G=>exact absurd rfl G
       | m+2,_=>rfl
      unfold v6 at hD s2 S;simp only[jb]at hD s2 S
      go_region_law (refine cd rfl (.tmp 43) (.tmp 46) 218 rfl i1 (.slice none 0 0) 24 (g9 H 0 ⟨some ⟨J,0,none⟩,i⟩ 1) (gn a) underlying218 az aT bd bc rfl Rc (by simp[Act.eval] <;> rfl) (hD.out.own 1) ⟨X.heap.size,0,none⟩ 1 1 _ (by simp[Act.eval]) rfl s2.out S.out Rc a1.out bf.out ?_;intro g6 N w6 Z O p;obtain⟨k6,f6,ad⟩:=a8.app hD.out (cs':=oU (l++[aL s]) (a++[jb g d b r]) (g9 (g9 H 0 ⟨some ⟨J,0,none⟩,i⟩) 1 ⟨some ⟨g6,0,none⟩,N⟩)) (rows':=pW (l++[aL s]) (a++[jb g d b r])) 1 1 g6 N ((gn a).n+1) _ Z (ug a (jb g d b r)) O (by simpa using p) ai.out (.slice (g9 H 0 ⟨some ⟨J,0,none⟩,i⟩ 1).ao a.length (g9 H 0 ⟨some ⟨J,0,none⟩,i⟩ 1).cap) rfl (by simp[oU,g9,gn]);clear Z O p)
      all_goals
       have T6:=hI (T5.out.trans (ad.out.2.first ((ab.refl [] _).alloc _).drew));clear q1 aS k6 f6;generalize (if b=1 then some (⟨g,d,none⟩:Addr) else some ⟨g,d+1,none⟩)=AE;go_wp2;go_ret;refine⟨a++[jb g d b r],_,QN (by rw[v.out]),?_,by rw[v.out];simp[jb],T6.out,fun e q=>by rw[Rr]at q;rcases q with q | q;exact Q1 q;simp at q;subst q;exact QV (MC g d b r)⟩;rw[v.out];refine⟨ad.out.1,by simp[h.len],?_⟩;intro e z;rw[Rr]at z
       rcases z with z | z
       ·exact(h.exs e z).turned T6.out
       ·simp at z;subst z
        exact(Og b hx).turned T6.out
 ·go_enter func272,ntmps272
  go_upto_region 1 with fail
  rw[HW.out];have RA:=pT w l a H o s.U6 W V (by omega) al M a7;have RL:=Jv l (a.map Ex.xs) 10000 (by omega) (by intro y hy;obtain⟨e,Q,rfl⟩:=Si.1 hy;exact al e Q) s.U6;have v:Hid (mW s E (l,a.map Ex.xs)=if Dv (nY l (a.map Ex.xs) s.U6) E=true then(0,l,a.map Ex.xs) else(8,l,a.map Ex.xs)):=by show _=_;simp[mW,P]
  generalize nY l (a.map Ex.xs) s.U6=R at *;clear u1 u3 u4 u5 u6 u7;go_wp2_with fail;refine RA.mono ?_;rintro e w2 ⟨hd,rfl,ho,hn,k2⟩;go_wp2_with fail;refine(yo hd Q R E w2 ho.view (Y.view.Vb k2) (by omega) (by omega)).mono ?_;rintro e U ⟨rfl,F⟩
  cases ap:Dv R E
  ·have A:Hid (mW s E (l,a.map Ex.xs)=(8,l,a.map Ex.xs)):=by show _=_;rw[v.out,ap];simp
   clear v RA;go_wp2;go_ret;exact⟨a,H,QN (by rw[A.out]),by rw[A.out];exact(V.Vb k2).Vb F,by rw[A.out],(aA.refl _ _ _).Vb ((K.trans k2).trans F),fun _ q=>Q1 q⟩
  ·have A:Hid (mW s E (l,a.map Ex.xs)=(0,l,a.map Ex.xs)):=by show _=_;rw[v.out,ap];simp
   clear v RA;go_wp2;go_ret;exact⟨a,H,QN (by rw[A.out]),by rw[A.out];exact(V.Vb k2).Vb F,by rw[A.out],(aA.refl _ _ _).Vb ((K.trans k2).trans F),fun _ q=>Q1 q⟩
theorem Ck(d:aw H i (bB v))(p:v.length<=1073741824) :
  Calls prog 280 #[.slice i.ao v.length i.cap,.int .i64 f] H fun e r=>e=.returned (.bool (jG v f))/\r=H:=by
 obtain⟨z,s⟩:=i
 rcases d.Vm with ⟨t,o,_⟩ | ⟨g,q,n,_⟩
 ·have h:v.length=0:=o
  have l:v=[]:=Rk h;subst l;clear d o h p t;go_enter func280,ntmps280;go_wp2;refine SZ 1 ?_;rw[Tr];go_wp2;go_ret;exact⟨rfl,rfl⟩
 ·simp only at n
  subst n;go_enter func280,ntmps280;go_wp2
  go_loopg [5] v.length (fun g u wr=>∃k:Nat,k<=v.length/\g=v.length-k/\u=.int .i64 k/\Hid (jG v f=jG (v.drop k) f)/\wr=H)
  case atStart=>exact⟨0,by omega,by omega,rfl,rfl,rfl⟩
  case round =>
   obtain⟨k,x,y,rfl,c,rfl⟩:=hrel
   by_cases a:k<v.length
   ·have w:=d.cell rfl k (.int .i64 v[k]) (jP v k a)
    cases b:(v[k]==f)
    ·have j:Hid (jG v f=jG (v.drop (k+1)) f):=yE v f k a c.out b
     have m:=(oF v[k] f).trans b;clear c d b;go_wp2
     go_roundg (v.length-(k+1))
     case measure=>omega
     case rel=>exact⟨k+1,by omega,rfl,by go_num,j,rfl⟩
    ·have j:Hid (jG v f=true):=BQ v f k a c.out b
     have m:=(oF v[k] f).trans b;clear c d b;go_wp2;go_ret;exact⟨aD j.out.symm,rfl⟩
   ·have j:Hid (jG v f=false):=yF v f k a c.out
    clear c d;go_wp2;go_ret;exact⟨aD j.out.symm,rfl⟩
structure xE(w:World)(b rb ro g n tb:Nat):Prop where
 blk:∃arr t,w.heap[b]?=some (.cells arr t (0,0))/\arr[0]?=some (.pointer (some ⟨rb,ro,none⟩))/\arr[1]?=some (.slice (some ⟨g,0,none⟩) n n)/\arr[2]?=some (.pointer (some ⟨tb,0,none⟩))
theorem xE.Vb{c:Nat}(h:xE S n a g zt y6 c)(k:ab [] S o):xE o n a g zt y6 c:=by
 obtain⟨b,t,e,d⟩:=h.blk;exact⟨b,t,k.get e (by simp),d⟩
theorem xE.cells{g:Nat}(h:xE S n a g g zt y6):S.cell? ⟨n,0,none⟩=some (.pointer (some ⟨a,g,none⟩))/\S.cell? ⟨n,1,none⟩=some (.slice (some ⟨g,0,none⟩) zt zt)/\S.cell? ⟨n,2,none⟩=some (.pointer (some ⟨y6,0,none⟩)):=by
 obtain⟨f,t,b,c,e,d⟩:=h.blk;exact⟨(aa b 0).trans c,(aa b 1).trans e,(aa b 2).trans d⟩
def pQ(vs:List ByteArray):List ByteArray->List Nat->List Nat
 | [],acc=>acc
 | x :: r,acc=>match pu vs x with
  | none=>pQ vs r acc
  | some p=>if jG acc p=true then pQ vs r acc else pQ vs r (acc++[p])
def kO(vs xs:List ByteArray):List Nat:=pQ vs xs []
theorem NV(a:f<l.length):pQ T (l.drop f) v=match pu T l[f] with
  | none=>pQ T (l.drop (f+1)) v
  | some p=>if jG v p=true then pQ T (l.drop (f+1)) v else pQ T (l.drop (f+1)) (v++[p]):=by
 rw[Rf a];rfl
theorem LU(a:¬f<l.length):pQ T (l.drop f) v=v:=by
 rw[R8 (by omega)];rfl
theorem CF(b:List ByteArray)(a:List Nat)(h:∀p∈a,p<l.length):(∀p∈pQ l b a,p<l.length)/\(pQ l b a).length<=a.length+b.length:=by
 induction b generalizing a with
 | nil=>exact⟨h,by simp[pQ]⟩
 | cons x r d =>
  rw[pQ]
  split
  ·have:=d a h;exact⟨this.1,by simp;omega⟩
  ·next p f =>
   split
   ·have:=d a h;exact⟨this.1,by simp;omega⟩
   ·have:=d (a++[p]) (by intro q c;simp at c;rcases c with c | rfl;exact h q c;exact GB f)
    exact⟨this.1,by have e:=this.2;simp at e ⊢;omega⟩
theorem Kb(h:n∈kO y N):n<y.length:=(CF y N [] (by simp)).1 n h
theorem FH:(kO T l).length<=l.length:=by have:=(CF T l [] (by simp)).2;unfold kO;simpa using this
theorem wC(hp:xE H y4 y7 y8 D I w)(h:kQ H w x M y5 z5)(hl:x.length<=1073741824)(U:jT H i l)(T:l.length<=1000000) :
  Calls prog 279 #[.pointer (some ⟨y4,0,none⟩),.slice i.ao l.length i.cap] H fun e w'=>∃c:Hd,e=.returned (.slice c.ao (kO x l).length c.cap)/\aw w' c (bB (kO x l))/\(∀d,c.blk=some d->H.heap.size<=d)/\ab [] H w':=by
 obtain⟨i0,hi,Z,Q,W⟩:=Re yH;obtain⟨ao,ad⟩:=i
 rcases U with rfl | ⟨gv,G,ac,t,e1,e2,V,e4,e5⟩
 ·clear T
  go_enter func279,ntmps279;go_wp2;refine SZ 1 ?_;rw[Tr];go_wp2;go_ret;exact⟨⟨none,0⟩,rfl,QZ _ _ _ _,by intro d n;simp[Hd.blk]at n,ab.refl _ _⟩
 simp only at e1 e4 e5;subst e1;obtain⟨R,HR⟩:∃R,Hid (R=kO x l):=⟨_,rfl⟩
 rw[<-HR.out];go_enter func279,ntmps279;go_wp2
 go_loopg [5,6] l.length (fun gk sv al wr=>∃(k:Nat) (c:Hd) (a:List Nat),k<=l.length/\gk=l.length-k/\al=.int .i64 k/\sv=.slice c.ao a.length c.cap/\a.length<=k/\Hid (R=pQ x (l.drop k) a)/\aw wr c (bB a)/\(∀d,c.blk=some d->H.heap.size<=d)/\ab [] H wr)
 case atStart=>exact⟨0,⟨none,0⟩,[],by omega,by omega,rfl,rfl,by simp,HR.out,QZ _ _ _ _,by intro d n;simp[Hd.blk]at n,ab.refl _ _⟩
 case round =>
  obtain⟨k,c,a,hk,hg,rfl,rfl,ai,o,K,B,A⟩:=hrel;have hr:=h.Vb A;obtain⟨p0,p1,p2⟩:=(hp.Vb A).cells
  by_cases z:k<l.length
  ·have c2:wr.cell? ⟨gv,G+k,none⟩=some (.string l[k]):=(aa (A.get e2 (by simp)) (G+k)).trans (V k l[k] (QP z))
   have ag:(k:Int)<l.length:=by omega
   have g:=hI (o.out.trans (NV x l a k z));have f:=hI (fun w1 (k1:ab [] wr w1)=>sZ w x M y5 z5 l[k] w1 (hr.Vb k1) hl);clear o V p0 p1;generalize l[k]=y at *
   rcases hpo:pu x y with _ | p
   ·have r:Hid (R=pQ x (l.drop (k+1)) a):=by show _=_;rw[g.out,hpo]
    rw[hpo]at f;simp only[nB]at f;clear g
    go_upto_region 5 with fail
    go_quiet ((go_at_call 260;exact Rd (f.out _ ((ab.refl [] _).drewN _))))
    go_wp2
    go_roundg (l.length-(k+1))
    case measure=>omega
    case rel=>exact⟨k+1,c,a,by omega,rfl,by go_num,rfl,by omega,r.out,K.Vg (fun d n=>((ab.refl [] wr).drewN _).block d (K.lt n) (by simp)),B,A.drewN _⟩
   ·rw[hpo]at f
    simp only[nB]at f;have af:(p:Int) ≥ 0:=by omega
    go_upto_region 5 with fail
    go_quiet ((go_at_call 260;exact Rd (f.out _ ((ab.refl [] _).drewN _))))
    obtain⟨C,q⟩:∃C,C=wr.drewN nq:=⟨_,rfl⟩
    rw[<-q];have m:aw C c (bB a):=by rw[q];exact K.Vg (fun d n=>((ab.refl [] wr).drewN _).block d (K.lt n) (by simp))
    have E:ab [] H C:=by rw[q];exact A.drewN _
    clear q
    cases P:jG a p
    ·have r:Hid (R=pQ x (l.drop (k+1)) (a++[p])):=by show _=_;rw[g.out,hpo];simp[P]
     have F:=m.Vg (fun d n=>((ab.refl [] C).alloc (.cells #[.int .i64 p] 3)).block d (m.lt n) (by simp));clear g
     go_upto_region 7 with (go_at_call 280;refine(Ck c a p _ (by exact m) (by omega)).mono ?_;rintro e w7 ⟨rfl,v⟩;rw[v,P])
     go_wp2_with (at_builtin;refine aM _ rfl (.tmp 31) (.tmp 33) 26 rfl i0 (.int .i64 0) 8 c (bB a) underlying26 hi Z Q W rfl Rc rfl (by exact F) ⟨_,0,none⟩ 1 1 [.int .i64 p] rfl rfl ?d1 ?d2 Rc ?d3 ?d4 ?_)
     case d1=>intro j u O;match j,O with | 0,O=>simp at O;subst O;simp[Addr.add]
     case d2=>intro u hu;simp at hu;subst hu;rfl
     case d3=>simp only[bB];unfold maxLen;omega
     case d4=>simp only[bB];omega
     intro S J w5 L s b;rw[mv a p]at L;have N:=E.alloc (.cells #[.int .i64 p] 3);have Y:=N.grown s B
     have an:H.heap.size<=S:=by
      rcases b with e | e
      ·exact B S e
      ·have:=N.size;simp at e this;omega
     have X:Hid ((bB a).n+1=(a++[p]).length):=by show _=_;simp[bB]
     rw[X.out];clear s b F;go_wp2
     go_roundg (l.length-(k+1))
     case measure=>omega
     case rel=>exact⟨k+1,⟨some ⟨S,0,none⟩,J⟩,a++[p],by omega,rfl,by go_num,rfl,by simp;omega,r.out,L,by intro d n;simp[Hd.blk]at n;omega,Y⟩
    ·have r:Hid (R=pQ x (l.drop (k+1)) a):=by show _=_;rw[g.out,hpo];simp[P]
     clear g;go_wp2_with (go_at_call 280;refine(Ck c a p _ (by exact m) (by omega)).mono ?_;rintro e w7 ⟨rfl,v⟩;rw[v,P])
     go_roundg (l.length-(k+1))
     case measure=>omega
     case rel=>exact⟨k+1,c,a,by omega,rfl,by go_num,rfl,by omega,r.out,m,B,E⟩
  ·have r:Hid (a=R):=(o.out.trans (LU x l a k z)).symm
   clear o V;go_wp2;go_ret;exact⟨c,by rw[<-r.out];rfl,by rw[<-r.out];exact K,B,A⟩
def xH(side:Nat)(ms:List Bool)(ones others:List Nat):Bool:=ones.all (fun i=>others.all (fun j=>eD side ms i j))
theorem M9{side:Nat}{ms:List Bool}(b:w<z7.length)(a:f<zb.length)(h:eD side ms z7[w] zb[f]=false):xH side ms z7 zb=false:=by
 cases e:xH side ms z7 zb
 ·rfl
 ·unfold xH at e
  rw[Sn]at e;have:=e _ (Rb b);rw[Sn]at this;rw[this _ (Rb a)]at h;cases h
theorem Kx{b:List Bool}(h:∀i j (a:i<z7.length) (c:j<zb.length),eD n b z7[i] zb[j]=true):xH n b z7 zb=true:=by
 unfold xH;rw[Sn];intro x e;rw[Sn];intro y d;obtain⟨i,a,rfl⟩:=R0 e;obtain⟨j,c,rfl⟩:=R0 d;exact h i j a c
theorem zD(B:Hd)(b a:List Nat)(n:World)(hp:xE n y4 y7 y8 D I w)(h:kQ n w x M y5 z5)(U:M.length=x.length*x.length)(R:x.length<=10000)(G:aw n i (bB b))(F:aw n B (bB a))(an:b.length<=1000000)(af:a.length<=1000000)(y:∀q∈b,q<x.length)(u:∀q∈a,q<x.length) :
  Calls prog 277 #[.pointer (some ⟨y4,0,none⟩),.slice i.ao b.length i.cap,.slice B.ao a.length B.cap] n fun e w'=>e=.returned (.bool (xH x.length M b a))/\∃m,w'=n.drewN m:=by
 go_enter func277,ntmps277;go_wp2
 go_loopg [7] b.length (fun gk c wr=>∃(k m:Nat),k<=b.length/\gk=b.length-k/\c=.int .i64 k/\Hid (∀c j (l:c<b.length) (v:j<a.length),c<k->eD x.length M b[c] a[j]=true)/\Hid (wr=n.drewN m))
 case atStart=>exact⟨0,0,by omega,by omega,rfl,fun c j l v h=>by omega,rfl⟩
 case round =>
  obtain⟨k,m,hk,hg,rfl,d,C⟩:=hrel
  by_cases r:k<b.length
  ·go_wp2_with fail
   go_loopg [8] a.length (fun L i2 J=>∃(j Q:Nat),j<=a.length/\L=a.length-j/\i2=.int .i64 j/\Hid (∀c (l:c<a.length),c<j->eD x.length M b[k] a[c]=true)/\Hid (J=n.drewN Q))
   case atStart=>exact⟨0,m,by omega,by omega,rfl,fun c l h=>by omega,C⟩
   case round =>
    obtain⟨j,Q,v,aT,rfl,g,f⟩:=hrel
    by_cases p:j<a.length
    ·have K:ab [] n wr:=by rw[f.out];exact(ab.refl [] _).drewN _
     have Z:=h.Vb K;obtain⟨p0,p1,p2⟩:=(hp.Vb K).cells
     rcases G.Vm with ⟨_,O,_⟩ | ⟨ga,ca,S,al,P,ap,-⟩
     ·have:b.length=0:=O
      omega
     rcases F.Vm with ⟨_,O,_⟩ | ⟨gb,cb,N,ax,T,az,-⟩
     ·have:a.length=0:=O
      omega
     have d1:wr.cell? ⟨ga,k,none⟩=some (.int .i64 b[k]):=(G.Vg (fun q H=>K.block q (G.lt H) (by simp))).cell S k (.int .i64 b[k]) (jP b k r);have d2:wr.cell? ⟨gb,j,none⟩=some (.int .i64 a[j]):=(F.Vg (fun q H=>K.block q (F.lt H) (by simp))).cell N j (.int .i64 a[j]) (jP a j p);have a1:b.length<=i.cap:=P;have ad:a.length<=B.cap:=T;have ag:(k:Int)<b.length:=by omega
     have ac:(j:Int)<a.length:=by omega
     have x1:=y _ (Rb r);have x2:=u _ (Rb p);have t:=hI (M9 (side:=x.length) (ms:=M) k j r p)
     have s:Hid (eD x.length M b[k] a[j]=true->∀c (l:c<a.length),c<j+1->eD x.length M b[k] a[c]=true):=by
      intro hh c l aS
      by_cases e:c=j
      ·subst e;exact hh
      ·exact g.out c l (by omega)
     have AP:=fun nq=>qh w x M y5 z5 b[k] a[j] (wr.drewN nq) (Z.Vb ((ab.refl [] _).drewN nq)) U R x1 x2
     obtain⟨a0,W⟩:=i;obtain⟨ar,V⟩:=B;simp only at S N;subst S;subst N;clear g Z p0 p1;generalize b[k]=X at *;generalize a[j]=Y at *;have o:=hI AP;clear AP
     cases E:eD x.length M X Y
     ·have A:=hI (t.out E)
      rw[E]at o;clear t s d
      go_upto_region 7 with fail
      go_quiet ((go_at_call 215;exact Rd (o.out _)))
      go_wp2;go_ret;exact⟨aD A.out.symm,_,by rw[f.out];exact Uf _ _ _⟩
     ·have A:=hI (s.out E)
      rw[E]at o;clear t s
      go_upto_region 7 with fail
      go_quiet ((go_at_call 215;exact Rd (o.out _)))
      go_wp2
      go_roundg (a.length-(j+1))
      case measure=>omega
      case rel=>exact⟨j+1,_,by omega,rfl,by go_num,A.out,by show _=_;rw[f.out];exact Uf _ _ _⟩
    ·have HN:Hid (∀c j (l:c<b.length) (v:j<a.length),c<k+1->eD x.length M b[c] a[j]=true):=by
      intro c j' l z ai
      by_cases e:c=k
      ·subst e;exact g.out j' z (by omega)
      ·exact d.out c j' l z (by omega)
     clear g d;go_wp2
     go_roundg (b.length-(k+1))
     case measure=>omega
     case rel=>exact⟨k+1,Q,by omega,rfl,by go_num,HN,f⟩
  ·have A:Hid (xH x.length M b a=true):=Kx (fun c j l v=>d.out c j l v (by omega))
   clear d;go_wp2;go_ret;exact⟨aD A.out.symm,m,C.out⟩
structure iA(w:World)(g N:Nat)(F:Nat->List Nat)(K:Nat->Hd):Prop where
 arr:∃arr,w.heap[g]?=some (.cells arr 26 (0,0))/\arr.size=N/\∀n,n<N->arr[n]?=some (.slice (K n).ao (F n).length (K n).cap)
 own:∀n,n<N->aw w (K n) (bB (F n))
 off:∀n,n<N->(K n).blk≠some g
theorem iA.Vb(h:iA S n a z4 d)(q:ab [] S o):iA o n a z4 d:=by
 obtain⟨b,f,g,i⟩:=h.arr;exact⟨⟨b,q.get f (by simp),g,i⟩,fun e c=>(h.own e c).Vg (fun x j=>q.block x ((h.own e c).lt j) (by simp)),h.off⟩
theorem iA.cell(h:iA S n a z4 d)(b:Nat)(g:b<a):S.cell? ⟨n,b,none⟩=some (.slice (d b).ao (z4 b).length (d b).cap):=by
 obtain⟨f,c,i,e⟩:=h.arr;rw[aa c];exact e b g
theorem iA.free(h:iA S n a z4 d)(b:Nat):S.frozen? ⟨n,b,none⟩=false:=by
 obtain⟨e,c,f,g⟩:=h.arr;exact am c b
theorem iA.lt(h:iA S n a z4 d):n<S.heap.size:=by
 obtain⟨c,b,e,f⟩:=h.arr;exact ae b
def Fy(F:Nat->List Nat)(k:Nat)(v:List Nat):Nat->List Nat:=fun n=>if n=k then v else F n
theorem iA.store{k:Nat}(h:iA S n a z4 d)(v:List Nat)(f:Hd)(o:aw S f (bB v))(i:f.blk≠some n) :
  iA (S.setCell ⟨n,k,none⟩ (.slice f.ao v.length f.cap)) n a (Fy z4 k v) (g9 d k f):=by
 obtain⟨p,l,j,m⟩:=h.arr;refine⟨⟨_,ah l _ _,by simpa using j,?_⟩,?_,?_⟩
 ·intro c e
  by_cases b:c=k
  ·subst b
   rw[dh];simp[j,e,Fy]
  ·rw[bU _ _ _ _ b]
   rw[Uk (by omega)];simp only[Fy,if_neg b];exact m c e
 ·intro c e
  by_cases b:c=k
  ·subst b
   rw[dh];simp only[Fy,if_pos];exact o.Vg (fun x g=>Q4 _ _ _ _ (by rintro rfl;exact i g))
  ·rw[bU _ _ _ _ b]
   simp only[Fy,if_neg b];exact(h.own c e).Vg (fun x g=>Q4 _ _ _ _ (by rintro rfl;exact h.off c e g))
 ·intro c e
  by_cases b:c=k
  ·subst b;rw[dh];exact i
  ·rw[bU _ _ _ _ b];exact h.off c e
end Go.Proofs.YtpddjjabfbfifaaGreat
