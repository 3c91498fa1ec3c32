import Derived.BigQuiet
import Derived.Maps.AppendAt
import Derived.Test.YtpddjjabfbfifaaGreatG06
namespace Go.Proofs.YtpddjjabfbfifaaGreat
open Go.RowKit Tryz
set_option maxRecDepth 100000
set_option maxHeartbeats 40000000
variable{S o:World}{T a g zt y6:Nat}{z6:Hd}{v N:List ByteArray}{d:Nat->Hd}{z7 zb:List Nat}{z4:Nat->List Nat}(y4 y7 y8 D I w:Nat)(x:List ByteArray)(M:List Bool)(y5 z5 i:Hd)(L:List (List ByteArray))(n:List ByteArray)(b:List St)(k:Nat->Hd)(l:List ByteArray)(y:List Nat)(f:Nat)(H:World)
def Ea(f:pv):Array Value:=#[.int .i64 f.1,.string f.2.file,.int .i64 f.2.line,.int .i64 f.2.col]
theorem jh{f:pv}(h:S.heap[T]?=some (.cells (Ea f) 165 (0,0))) :
  S.cell? ⟨T,0,none⟩=some (.int .i64 f.1)/\S.cell? ⟨T,1,none⟩=some (.string f.2.file)/\S.cell? ⟨T,2,none⟩=some (.int .i64 f.2.line)/\S.cell? ⟨T,3,none⟩=some (.int .i64 f.2.col):=by
 refine⟨?_,?_,?_,?_⟩ <;> (rw[aa h];rfl)
theorem Bn(s:St)(e:b.length<=10000)(c:s.proof.length<=10000):gu ⟨(dD b f s.fin 1 (s.proof.drop 1) (aK b f)).2,[],[],0,false⟩ 20000:=by
 have a:=(yh b f s.fin (s.proof.drop 1) 1 (aK b f)).2;have d:(aK b f).length<=b.length:=ox b f b.length;simp only[RQ]at a;exact⟨by simp only;omega,by simp,by simp,by simp,by simp⟩
theorem rI(hr:dF H D I b k)(ha:w<b.length)(ok:iH b)(bk:x9 b[w]) :
  Calls prog 138 #[.pointer (some ⟨D,I,none⟩),.int .i64 w] H fun e w'=>∃hd:Hd,
   e=.returned (.tuple #[.slice hd.ao (lJ b w b[w]).1.length hd.cap,gU (lJ b w b[w]).2])/\aw w' hd (go (lJ b w b[w]).1)/\(∀x,hd.blk=some x->H.heap.size<=x)/\ab [] H w':=by
 have cu:=hr.lt;have b2:=ok.len;have cj:=ok.prfs w ha;have cx:(aK b w).length<=b.length:=ox b w b.length;obtain⟨AO,ba⟩:∃AO,Hid ((k (11+2*w)).ao=AO):=⟨_,rfl⟩
 obtain⟨W,hW⟩:∃W,W=H.alloc (.cells #[.int .i64 0,.string ⟨#[]⟩,.int .i64 0,.int .i64 0] 165):=⟨_,rfl⟩
 have K:ab [] H W:=by rw[hW];exact(ab.refl [] _).alloc _
 have BF:W.heap[H.heap.size]?=some (.cells bA 165 (0,0)):=by rw[hW];exact QR _ _
 have HW:=hI hW.symm;clear hW;go_enter func138,ntmps138
 go_upto_region 1 with fail
 rw[HW.out];go_wp2_with fail;refine(a9 D I w b k _ (hr.Va K) ha).mono ?_;rintro e n ⟨rfl,P⟩;unfold ee;rw[ba.out];obtain⟨TB,al⟩:∃TB:Array Value,TB=#[.int .i64 b[w].kind,.string b[w].label,.slice (k (10+2*w)).ao b[w].U5.length (k (10+2*w)).cap,.slice AO b[w].proof.length (k (11+2*w)).cap,.string b[w].fin.file,.int .i64 b[w].fin.line,.int .i64 b[w].fin.col,.int .i64 b[w].til]:=⟨_,rfl⟩
 obtain⟨W2,y⟩:∃W2,W2=n.alloc (.cells #[.int .i64 b[w].kind,.string b[w].label,.slice (k (10+2*w)).ao b[w].U5.length (k (10+2*w)).cap,.slice AO b[w].proof.length (k (11+2*w)).cap,.string b[w].fin.file,.int .i64 b[w].fin.line,.int .i64 b[w].fin.col,.int .i64 b[w].til] 158):=⟨_,rfl⟩
 have bz:=hI y.symm;have K2:ab [] H W2:=by rw[y];exact(K.trans P).alloc _
 have BT:W2.heap[n.heap.size]?=some (.cells TB 158 (0,0)):=by rw[y,al];exact QR _ _
 have bs:W2.heap[H.heap.size]?=some (.cells bA 165 (0,0)):=by rw[y];exact((ab.refl [] _).alloc _).get (P.get BF (by simp)) (by simp)
 have ct:H.heap.size<n.heap.size:=by have:=ae (P.get BF (by simp));omega
 have cp:=ae BT;have u:=hI al;clear y al
 go_upto_region 2 with fail
 rw[bz.out];clear HW bz P BF K;have an:=K2.size;have b5:=hr.Va K2;go_wp2_with fail;refine(mz D I w b k _ b5 ha ok).mono ?_;rintro e C ⟨p,rfl,bx,bj,E⟩
 have CM:dL (C.alloc (.cells #[.slice p.ao (aK b w).length p.cap,.slice none 0 0,.slice none 0 0,.int .i64 0,.bool false] 279)) C.heap.size ⟨aK b w,[],[],0,false⟩ (xJ p):=Nd (cs:=lE ⟨aK b w,[],[],0,false⟩ (xJ p)) (rows:=wV ⟨aK b w,[],[],0,false⟩) bx (by
  intro i
  match i with
  | 0=>exact QY _ _ _ _
  | 1=>exact QY _ _ _ _
  | m+2=>exact QY _ _ _ _)
 have K4:ab [] H (C.alloc (.cells #[.slice p.ao (aK b w).length p.cap,.slice none 0 0,.slice none 0 0,.int .i64 0,.bool false] 279)):=(K2.trans E).alloc _;have af:(C.alloc (.cells #[.slice p.ao (aK b w).length p.cap,.slice none 0 0,.slice none 0 0,.int .i64 0,.bool false] 279)).heap[n.heap.size]?=some (.cells TB 158 (0,0)):=((ab.refl [] _).alloc _).get (E.get BT (by simp)) (by simp);have ar:(C.alloc (.cells #[.slice p.ao (aK b w).length p.cap,.slice none 0 0,.slice none 0 0,.int .i64 0,.bool false] 279)).heap[H.heap.size]?=some (.cells bA 165 (0,0)):=((ab.refl [] _).alloc _).get (E.get bs (by simp)) (by simp);have cz:W2.heap.size<=C.heap.size:=E.size;have j:∀x,f9 (xJ p) x->W2.heap.size<=x:=fun x a=>bj x (NO a)
 obtain⟨W4,a4⟩:∃W4,W4=C.alloc (.cells #[.slice p.ao (aK b w).length p.cap,.slice none 0 0,.slice none 0 0,.int .i64 0,.bool false] 279):=⟨_,rfl⟩
 rw[<-a4]at CM K4 af ar;have bl:=hI a4.symm;clear a4 bx bj E BT bs
 go_upto_region 3 with fail
 rw[bl.out];clear bl;have bo:=Bn b w b[w] b2 cj;have bg:=(yh b w b[w].fin (b[w].proof.drop 1) 1 (aK b w)).1;have S:=xQ C.heap.size ⟨aK b w,[],[],0,false⟩ (xJ p) D I w b k H W4 CM hr K4 ha ok (by simp only;omega) (by omega) (fun x a=>Q1 an (j x a));have br:Hid (F7 b w b[w]=Gx (dD b w b[w].fin 1 (b[w].proof.drop 1) (aK b w)).1.2 (b[w].proof.drop (dD b w b[w].fin 1 (b[w].proof.drop 1) (aK b w)).1.1) ⟨(dD b w b[w].fin 1 (b[w].proof.drop 1) (aK b w)).2,[],[],0,false⟩):=rfl;simp only at S;have cl:=a8.lt CM;simp only[RQ]at bg;generalize dD b w b[w].fin 1 (b[w].proof.drop 1) (aK b w)=BL at *;obtain⟨⟨nx,bf,bp⟩,ns⟩:=BL;simp only at S br bo bg;go_wp2_with fail;refine S.mono ?_;rintro e c ⟨rfl,H5,D5,V⟩;unfold gU
 have K5:=K4.ofP V.1 (fun x a=>by
  rcases a with e | e
  ·omega
  ·exact Q1 an (j x e))
 have n1:¬f9 H5 H.heap.size:=V.fresh _ (by omega) (fun hm=>by have:=j _ hm;omega);have n2:¬f9 H5 n.heap.size:=V.fresh _ (by omega) (fun hm=>by have:=j _ hm;omega)
 have nb:∀x,f9 H5 x->H.heap.size<=x:=fun x a=>by
  rcases V.2 x a with e | e
  ·exact Q1 an (j x e)
  ·omega
 have bw:=V.1.get af (by rintro (e | e);omega;have:=j _ e;omega);have bv:=V.1.get ar (by rintro (e | e);omega;have:=j _ e;omega);have n3:¬f9 H5 c.heap.size:=fun hm=>by have:=a8.inlt D5 hm;omega
 have cq:=V.1.size;obtain⟨W6,R⟩:∃W6,W6=c.alloc (.cells #[.int .i64 bf,.string bp.file,.int .i64 bp.line,.int .i64 bp.col] 165):=⟨_,rfl⟩
 have k6:ab [] c W6:=by rw[R];exact(ab.refl [] _).alloc _
 have bd:W6.heap[c.heap.size]?=some (.cells (Ea (bf,bp)) 165 (0,0)):=by rw[R];exact QR _ _
 have C6:=dL.Va D5 k6;have a7:=k6.get bw (by simp);have b0:=k6.get bv (by simp);have K6:=K5.trans k6;have be:=hI R.symm;clear R
 go_upto_region 4 with fail
 rw[be.out];clear be af ar bw bv D5 V S CM K4 K5 b5 k6;go_wp2
 go_loopg [10] (b[w].proof.length-nx) (fun gk iv wr=>∃(i:Nat) (h:me) (q:Nat->Hd) (g:pv) (N:Nat),i<=10001/\gk=b[w].proof.length-i/\iv=.int .i64 i/\gu h N/\N+kp (b[w].proof.drop i)<=1020000/\Hid (F7 b w b[w]=Gx g (b[w].proof.drop i) h)/\dL wr C.heap.size h q/\(∀x,f9 q x->H.heap.size<=x)/\ab [] H wr /\
  wr.heap[H.heap.size]?=some (.cells bA 165 (0,0))/\wr.heap[n.heap.size]?=some (.cells TB 158 (0,0))/\wr.heap[c.heap.size]?=some (.cells (Ea g) 165 (0,0))/\¬f9 q H.heap.size/\¬f9 q n.heap.size/\¬f9 q c.heap.size)
 case atStart=>exact⟨nx,_,H5,(bf,bp),20000,by omega,by omega,rfl,bo,by have:=C0 b[w].proof nx;have:=bk.size;omega,br,C6,nb,K6,b0,a7,bd,n1,n2,n3⟩
 case round =>
  obtain⟨i,h,q,g,N,hi,hg,rfl,Z,hN,X,hC,ag,KW,B1,B2,B9,n1,n2,n3⟩:=hrel;clear C6 nb K6 b0 a7 bd;have cc:=hr.Va KW;have b4:=ae B1;have bT:=ae B2;have a6:=ae B9;have s:=cc.sts.prfs w b[w] (QO ha);obtain⟨f0,f1,f2,f3⟩:=jh B9;have yf:=am B9;obtain⟨J,L,O,M⟩:=da B1;have yz:=am B1;have cy:((i:Int) ≥ 0):=by omega
  obtain⟨ap,ax,ai,aS,aT⟩:=hC.cells;have cA:=a8.lt hC
  by_cases B:i<b[w].proof.length
  ·cases d:(g.1==0)
   ·have t3:wr.cell? ⟨n.heap.size,3,none⟩=some (.slice AO b[w].proof.length (k (11+2*w)).cap):=by rw[aa B2,u.out];rfl
    have o:Hid (lJ b w b[w]=([],g)):=by show _=_;unfold lJ;rw[X.out,Gy _ _ _ d];simp[uE,d]
    have l:(g.1 != 0)=true:=by simp[bne,d]
    clear X s
    go_upto_region 13 with fail
    go_region
    all_goals go_wp2
    all_goals exact QX (v:=.tuple #[.slice none 0 0,.agg #[.int .i64 g.1,.string g.2.file,.int .i64 g.2.line,.int .i64 g.2.col]]) (by simp[results,results138,go_sem,J,L,O,M]) rfl ⟨⟨none,0⟩,by rw[o.out];rfl,by rw[o.out];exact QY _ _ _ _,by intro x a;simp[Hd.blk]at a,(kG KW (QQ _) _ _ _ _).drew⟩
   ·obtain⟨gp,ep,ck,ch,d0,d1,d2,d3⟩:=s.word i B
    obtain rfl:AO=some ⟨gp,0,none⟩:=ba.out.symm.trans ep;have t3:wr.cell? ⟨n.heap.size,3,none⟩=some (.slice (some ⟨gp,0,none⟩) b[w].proof.length (k (11+2*w)).cap):=by rw[aa B2,u.out];rfl
    have co:gp<wr.heap.size:=s.lt (by unfold Hd.blk;rw[ep];rfl);clear ep s;have ac:=bk.col b[w].proof[i] (Ra B);have cb:=Fb b[w].proof i B;have az:=hI (X.out.trans (Pk g b[w].proof h i B d));have ad:=zp b[w].proof[i].1 b[w].proof[i].2 Z;have TW:=AB C.heap.size h q b[w].proof[i].1 b[w].proof[i].2.file b[w].proof[i].2.line b[w].proof[i].2.col wr hC N Z (by omega) ac;clear X;generalize b[w].proof[i]=wd at *;obtain⟨t,pf,pl,pc⟩:=wd;simp only at d0 d1 d2 d3 az ad TW ac cb;generalize mS t ⟨pf,pl,pc⟩ h=Q at *;obtain⟨⟨qf,qp⟩,c2⟩:=Q;simp only at az ad TW;unfold gU at TW;clear J L O M yz ap ax ai aS aT;go_wp2_with fail;refine TW.mono ?_;rintro e w7 ⟨rfl,H7,D7,Y⟩
    have bc:∀x,(x=C.heap.size∨f9 q x)->H.heap.size<=x:=by
     rintro x (e | e)
     ·omega
     ·exact ag x e
    have K7:=KW.ofP Y.1 bc;have q1:=Y.1.get B1 (by rintro (e | e);omega;exact n1 e);have q2:=Y.1.get B2 (by rintro (e | e);omega;exact n2 e);have q9:=Y.1.get B9 (by rintro (e | e);omega;exact n3 e);have m1:=Y.fresh H.heap.size b4 n1;have m2:=Y.fresh n.heap.size bT n2;have m3:=Y.fresh c.heap.size a6 n3;have y9:=am q9
    have m4:∀x,f9 H7 x->H.heap.size<=x:=fun x a=>by
     rcases Y.2 x a with e | e
     ·exact ag x e
     ·omega
    have kk:=fun a0 a1 a2 a3=>ji (w:=w7) (r:=c.heap.size) a0 a1 a2 a3
    have a5:=hI kk
    have b6:Hid (∀a0 a1 a2 a3,((((w7.setCell ⟨c.heap.size,0,none⟩ a0).setCell ⟨c.heap.size,1,none⟩ a1).setCell ⟨c.heap.size,2,none⟩ a2).setCell ⟨c.heap.size,3,none⟩ a3).heap[c.heap.size]?=some (.cells #[a0,a1,a2,a3] 165 (0,0))):=by
     intro a0 a1 a2 a3;rw[ah (ah (ah (ah q9 _ _) _ _) _ _)];rfl
    clear kk bc d0 d1 d2 d3 t3 f0 f1 f2 f3 yf;obtain⟨g0,g1,g2,g3⟩:=jh q9;go_wp2
    go_roundg (b[w].proof.length-(i+1))
    case measure=>omega
    case rel=>exact⟨i+1,c2,H7,(qf,qp),N+t.size,by omega,rfl,by go_num,ad,by omega,az.out,a8.kept D7 (a5.out _ _ _ _) (by simp;omega) (by intro x a;simp;rintro rfl;exact m3 a),m4,kG K7 (by omega) _ _ _ _,(a5.out _ _ _ _).get q1 (by simp;omega),(a5.out _ _ _ _).get q2 (by simp;omega),b6.out _ _ _ _,m1,m2,m3⟩
  ·have t3:wr.cell? ⟨n.heap.size,3,none⟩=some (.slice AO b[w].proof.length (k (11+2*w)).cap):=by rw[aa B2,u.out];rfl
   cases d:(g.1==0)
   ·have o:Hid (lJ b w b[w]=([],g)):=by show _=_;unfold lJ;rw[X.out,Gy _ _ _ d];simp[uE,d]
    have l:(g.1 != 0)=true:=by simp[bne,d]
    clear X s
    go_upto_region 13 with fail
    go_region
    all_goals go_wp2
    all_goals exact QX (v:=.tuple #[.slice none 0 0,.agg #[.int .i64 g.1,.string g.2.file,.int .i64 g.2.line,.int .i64 g.2.col]]) (by simp[results,results138,go_sem,J,L,O,M]) rfl ⟨⟨none,0⟩,by rw[o.out];rfl,by rw[o.out];exact QY _ _ _ _,by intro x a;simp[Hd.blk]at a,(kG KW (QQ _) _ _ _ _).drew⟩
   ·have t4:wr.cell? ⟨n.heap.size,4,none⟩=some (.string b[w].fin.file):=by rw[aa B2,u.out];rfl
    have t5:wr.cell? ⟨n.heap.size,5,none⟩=some (.int .i64 b[w].fin.line):=by rw[aa B2,u.out];rfl
    have t6:wr.cell? ⟨n.heap.size,6,none⟩=some (.int .i64 b[w].fin.col):=by rw[aa B2,u.out];rfl
    have HE:Hid (lJ b w b[w]=uE b[w].fin (cY,h)):=by show _=_;unfold lJ;rw[X.out,NP _ _ _ _ B d]
    have l:(g.1 != 0)=false:=by simp[bne,d]
    clear X s
    by_cases U:h.Vc=0
    ·have cf:¬((h.Vc:Int) > 0):=by omega
     by_cases T:h.steps.length=0
     ·have ca:((h.steps.length:Int)==0)=true:=by simp[T]
      have o:Hid (lJ b w b[w]=([],(1,b[w].fin))):=by show _=_;rw[HE.out];simp[uE,cY,U,T]
      obtain⟨F,f⟩:∃F,F=(((wr.setCell ⟨c.heap.size,0,none⟩ (.int .i64 1)).setCell ⟨c.heap.size,1,none⟩ (.string b[w].fin.file)).setCell ⟨c.heap.size,2,none⟩ (.int .i64 b[w].fin.line)).setCell ⟨c.heap.size,3,none⟩ (.int .i64 b[w].fin.col):=⟨_,rfl⟩
      have k8:ab [c.heap.size] wr F:=by rw[f];exact ji _ _ _ _
      have K8:ab [] H F:=by rw[f];exact kG KW (by omega) _ _ _ _
      have A:F.heap[c.heap.size]?=some (.cells (Ea (1,b[w].fin)) 165 (0,0)):=by
       rw[f,ah (ah (ah (ah B9 _ _) _ _) _ _)];rfl
      have G:=k8.get B1 (by simp;omega);have C8:=a8.kept hC k8 (by simp;omega) (by intro x a;simp;rintro rfl;exact n3 a);have z:=hI f.symm;clear f k8
      go_upto_region 12 with fail
      rw[z.out];clear z f0 f1 f2 f3 yf J L O M yz ap ax ai aS aT t3 t4 t5 t6 d l;obtain⟨f0,f1,f2,f3⟩:=jh A;have yf:=am A;obtain⟨J,L,O,M⟩:=da G;have yz:=am G
      go_upto_region 13 with fail
      go_region
      all_goals go_wp2
      all_goals exact QX (v:=.tuple #[.slice none 0 0,.agg #[.int .i64 1,.string b[w].fin.file,.int .i64 b[w].fin.line,.int .i64 b[w].fin.col]]) (by simp[results,results138,go_sem,J,L,O,M]) rfl ⟨⟨none,0⟩,by rw[o.out];rfl,by rw[o.out];exact QY _ _ _ _,by intro x a;simp[Hd.blk]at a,(kG K8 (QQ _) _ _ _ _).drew⟩
     ·have ca:((h.steps.length:Int)==0)=false:=Rg.2 (by omega)
      have o:Hid (lJ b w b[w]=(h.steps,cY)):=by show _=_;rw[HE.out];simp[uE,cY,U,T]
      have b3:Hid (aw wr (q 2) (go h.steps)):=a8.own hC 2;have b1:Hid (∀x,(q 2).blk=some x->H.heap.size<=x/\x≠H.heap.size):=fun x a=>⟨ag x ⟨2,a⟩,fun e=>n1 ⟨2,e ▸ a⟩⟩
      clear T U;go_wp2
      exact QX (v:=.tuple #[.slice (q 2).ao h.steps.length (q 2).cap,.agg #[.int .i64 0,.string ⟨#[]⟩,.int .i64 0,.int .i64 0]]) (by simp[results,results138,go_sem,J,L,O,M]) rfl
       ⟨q 2,by rw[o.out];rfl,by rw[o.out];exact b3.out.Vf (fun x a=>(ji (r:=H.heap.size) _ _ _ _).block x (b3.out.lt a) (by simp;exact(b1.out x a).2)),fun x a=>(b1.out x a).1,kG KW (QQ _) _ _ _ _⟩
    ·have cf:(h.Vc:Int) > 0:=by omega
     have o:Hid (lJ b w b[w]=([],(4,b[w].fin))):=by show _=_;rw[HE.out];simp[uE,cY,U]
     obtain⟨F,f⟩:∃F,F=(((wr.setCell ⟨c.heap.size,0,none⟩ (.int .i64 4)).setCell ⟨c.heap.size,1,none⟩ (.string b[w].fin.file)).setCell ⟨c.heap.size,2,none⟩ (.int .i64 b[w].fin.line)).setCell ⟨c.heap.size,3,none⟩ (.int .i64 b[w].fin.col):=⟨_,rfl⟩
     have k8:ab [c.heap.size] wr F:=by rw[f];exact ji _ _ _ _
     have K8:ab [] H F:=by rw[f];exact kG KW (by omega) _ _ _ _
     have A:F.heap[c.heap.size]?=some (.cells (Ea (4,b[w].fin)) 165 (0,0)):=by
      rw[f,ah (ah (ah (ah B9 _ _) _ _) _ _)];rfl
     have G:=k8.get B1 (by simp;omega);have C8:=a8.kept hC k8 (by simp;omega) (by intro x a;simp;rintro rfl;exact n3 a);have z:=hI f.symm;clear f k8
     go_upto_region 10 with fail
     rw[z.out];clear z f0 f1 f2 f3 yf J L O M yz ap ax ai aS aT t3 t4 t5 t6 d l;obtain⟨f0,f1,f2,f3⟩:=jh A;have yf:=am A;obtain⟨J,L,O,M⟩:=da G;have yz:=am G
     go_upto_region 13 with fail
     go_region
     all_goals go_wp2
     all_goals exact QX (v:=.tuple #[.slice none 0 0,.agg #[.int .i64 4,.string b[w].fin.file,.int .i64 b[w].fin.line,.int .i64 b[w].fin.col]]) (by simp[results,results138,go_sem,J,L,O,M]) rfl ⟨⟨none,0⟩,by rw[o.out];rfl,by rw[o.out];exact QY _ _ _ _,by intro x a;simp[Hd.blk]at a,(kG K8 (QQ _) _ _ _ _).drew⟩
def z8(s:St):Bool :=
 match s.proof with
 | []=>false
 | (t,_) :: _=>t.toList == [40]
def lu(l:List St)(a:Nat)(s:St):List nE×pv:=if z8 s=true then lJ l a s else fL l a s.fin s.proof []
theorem I9(X:dF H D I b k)(C:w<b.length)(R:iH b)(ad:x9 b[w]) :
  Calls prog 100 #[.pointer (some ⟨D,I,none⟩),.int .i64 w] H fun e w'=>∃a:Hd,
   e=.returned (.tuple #[.slice a.ao (lu b w b[w]).1.length a.cap,gU (lu b w b[w]).2])/\aw w' a (go (lu b w b[w]).1)/\(∀x,a.blk=some x->H.heap.size<=x)/\ab [] H w':=by
 have ar:=X.lt;have ap:=R.prfs w C;obtain⟨B,F⟩:∃B,Hid ((k (11+2*w)).ao=B):=⟨_,rfl⟩
 obtain⟨W,M⟩:∃W,W=H.alloc (.cells #[.int .i64 0,.string ⟨#[]⟩,.int .i64 0,.int .i64 0] 165):=⟨_,rfl⟩
 have K:ab [] H W:=by rw[M];exact(ab.refl [] _).alloc _
 have BF:W.heap[H.heap.size]?=some (.cells bA 165 (0,0)):=by rw[M];exact QR _ _
 have HW:=hI M.symm;clear M;go_enter func100,ntmps100
 go_upto_region 1 with fail
 rw[HW.out];go_wp2_with fail;refine(a9 D I w b k _ (X.Va K) C).mono ?_;rintro e Q ⟨rfl,l⟩;unfold ee;rw[F.out];obtain⟨i,f⟩:∃i,i=Q.alloc (.cells #[.int .i64 b[w].kind,.string b[w].label,.slice (k (10+2*w)).ao b[w].U5.length (k (10+2*w)).cap,.slice B b[w].proof.length (k (11+2*w)).cap,.string b[w].fin.file,.int .i64 b[w].fin.line,.int .i64 b[w].fin.col,.int .i64 b[w].til] 158):=⟨_,rfl⟩
 have J:=hI f.symm;have S:ab [] H i:=by rw[f];exact(K.trans l).alloc _
 have BT:i.heap[Q.heap.size]?=some (.cells #[.int .i64 b[w].kind,.string b[w].label,.slice (k (10+2*w)).ao b[w].U5.length (k (10+2*w)).cap,.slice B b[w].proof.length (k (11+2*w)).cap,.string b[w].fin.file,.int .i64 b[w].fin.line,.int .i64 b[w].fin.col,.int .i64 b[w].til] 158 (0,0)):=by rw[f];exact QR _ _
 have ac:i.heap[H.heap.size]?=some (.cells bA 165 (0,0)):=by rw[f];exact((ab.refl [] _).alloc _).get (l.get BF (by simp)) (by simp)
 have an:H.heap.size<Q.heap.size:=by have:=ae (l.get BF (by simp));omega
 have az:=ae BT;clear f
 go_upto_region 2 with fail
 rw[J.out];clear HW J l BF K;have t3:i.cell? ⟨Q.heap.size,3,none⟩=some (.slice B b[w].proof.length (k (11+2*w)).cap):=by rw[aa BT];rfl
 have j:=X.Va S;have g:=j.sts.prfs w b[w] (QO C)
 have d:Hid (∀(c:World) (fl:pv) (a:Hd) (O:List nE),ab [] i c->(∀x,a.blk=some x->i.heap.size<=x)->aw c a (go O)->lu b w b[w]=(O,fl) ->
   c.frozen? ⟨H.heap.size,0,none⟩=false/\c.frozen? ⟨H.heap.size,1,none⟩=false/\c.frozen? ⟨H.heap.size,2,none⟩=false/\c.frozen? ⟨H.heap.size,3,none⟩=false /\
   c.cell? ⟨H.heap.size,0,none⟩=some (.int .i64 0)/\c.cell? ⟨H.heap.size,1,none⟩=some (.string ⟨#[]⟩)/\c.cell? ⟨H.heap.size,2,none⟩=some (.int .i64 0)/\c.cell? ⟨H.heap.size,3,none⟩=some (.int .i64 0) /\
   ∀a0 T U Z,Hid (ab [] H ((((c.setCell ⟨H.heap.size,0,none⟩ a0).setCell ⟨H.heap.size,1,none⟩ T).setCell ⟨H.heap.size,2,none⟩ U).setCell ⟨H.heap.size,3,none⟩ Z)/\aw ((((c.setCell ⟨H.heap.size,0,none⟩ a0).setCell ⟨H.heap.size,1,none⟩ T).setCell ⟨H.heap.size,2,none⟩ U).setCell ⟨H.heap.size,3,none⟩ Z) a (go O))):=by
  intro c fl a O m Y L he;have B9:=m.get ac (by simp);obtain⟨y,A,z,s⟩:=da B9;have P:=am B9;refine⟨P 0,P 1,P 2,P 3,y,A,z,s,fun a0 T U Z=>⟨kG (S.trans m) (QQ _) _ _ _ _,L.Vf (fun x q=>(ji (r:=H.heap.size) _ _ _ _).block x (L.lt q) (by simp;rintro rfl;have:=Y _ q;omega))⟩⟩
 have u:=S.size
 rcases hpr:b[w].proof with _ | ⟨⟨t,p⟩,r⟩
 ·have E:b[w].proof.length=0:=by rw[hpr];rfl
  have h:Hid (lu b w b[w]=fL b w b[w].fin b[w].proof []):=by show _=_;simp[lu,z8,hpr]
  rw[E]at t3;have aS:¬((0:Nat):Int) > 0:=by omega
  clear hpr g;go_wp2_with (go_at_call 139;refine(pR D I w b k _ j C R).mono ?_;rintro e c ⟨a,rfl,G,n,m⟩;obtain⟨y0,y1,y2,y3,y,A,z,s,o⟩:=d.out c _ a _ m n G h.out;unfold gU)
  exact QX (v:=.tuple #[.slice a.ao (fL b w b[w].fin b[w].proof []).1.length a.cap,gU (fL b w b[w].fin b[w].proof []).2]) (by simp[results,results100,go_sem,y,A,z,s,gU]) rfl
   ⟨a,by rw[h.out],by rw[h.out];exact(o _ _ _ _).out.2,fun x q=>Q1 u (n x q),(o _ _ _ _).out.1⟩
 ·have E:b[w].proof.length=r.length+1:=by rw[hpr];rfl
  obtain⟨gp,N,ag,V,d0,-,-,-⟩:=g.word 0 (by omega);obtain rfl:B=some ⟨gp,0,none⟩:=F.out.symm.trans N;have ax:gp<i.heap.size:=g.lt (by unfold Hd.blk;rw[N];rfl);have al:((b[w].proof.length:Int) > 0):=by omega
  have ai:(0:Int)<b[w].proof.length:=by omega
  have af:0<b[w].proof.length:=by omega
  simp only[hpr,List.getElem_cons_zero]at d0
  cases hc:(t.toList == [40])
  ·have h:Hid (lu b w b[w]=fL b w b[w].fin b[w].proof []):=by show _=_;simp[lu,z8,hpr,hc]
   clear hpr g N;go_wp2_with (go_at_call 139;refine(pR D I w b k _ j C R).mono ?_;rintro e c ⟨a,rfl,G,n,m⟩;obtain⟨y0,y1,y2,y3,y,A,z,s,o⟩:=d.out c _ a _ m n G h.out;unfold gU)
   exact QX (v:=.tuple #[.slice a.ao (fL b w b[w].fin b[w].proof []).1.length a.cap,gU (fL b w b[w].fin b[w].proof []).2]) (by simp[results,results100,go_sem,y,A,z,s,gU]) rfl
    ⟨a,by rw[h.out],by rw[h.out];exact(o _ _ _ _).out.2,fun x q=>Q1 u (n x q),(o _ _ _ _).out.1⟩
  ·have h:Hid (lu b w b[w]=lJ b w b[w]):=by show _=_;simp[lu,z8,hpr,hc]
   clear hpr g N;go_wp2_with (go_at_call 138;refine(rI D I w b k _ j C R ad).mono ?_;rintro e c ⟨a,rfl,G,n,m⟩;obtain⟨y0,y1,y2,y3,y,A,z,s,o⟩:=d.out c _ a _ m n G h.out;unfold gU)
   exact QX (v:=.tuple #[.slice a.ao (lJ b w b[w]).1.length a.cap,gU (lJ b w b[w]).2]) (by simp[results,results100,go_sem,y,A,z,s,gU]) rfl
    ⟨a,by rw[h.out],by rw[h.out];exact(o _ _ _ _).out.2,fun x q=>Q1 u (n x q),(o _ _ _ _).out.1⟩
theorem Lr:(prog.info? 61).map (fun i=>(i.zero,i.size,i.bytes))=some (some (.slice none 0 0),1,24):=by kernel_rfl
structure Ex where
 hd:Hd
 xs:List ByteArray
def vZ(e:Ex):Value:=.slice e.hd.ao e.xs.length e.hd.cap
def Bw(l:List Ex):List Value:=l.map vZ
def gn(l:List Ex):dN:=⟨61,1,l.length,Bw l⟩
theorem ue(l:List Ex)(e:Ex):(⟨(gn l).e,(gn l).size,(gn l).n+1,(gn l).xs++[vZ e]⟩:dN)=gn (l++[e]):=by simp[gn,Bw]
theorem sA(l:List Ex)(k:Nat)(h:k<l.length):(Bw l)[k]?=some (vZ l[k]):=by simp[Bw,h]
theorem jT.keptP{P:Nat->Prop}(c:jT S z6 v)(k:eK P S o)(f:∀x,z6.blk=some x->¬P x):jT o z6 v:=by
 rcases c with c | ⟨g,a,b,t,d,h,e⟩
 ·exact Q0 c
 ·exact QU ⟨g,a,b,t,d,k.get h (f g (by unfold Hd.blk;rw[d];rfl)),e⟩
structure AU(w:World)(b:Nat)(H:Nat->Hd)(e:Ex):Prop where
 view:jT w e.hd e.xs
 adr:∃ad,e.hd.ao=some ad
 far:∀x,e.hd.blk=some x->x<w.heap.size/\x≠b/\¬f9 H x
theorem AU.turned{f:Nat->Hd}{e:Ex}(h:AU S T d e)(t:aA T S d o f):AU o T f e:=by
 refine⟨h.view.keptP t.1 (fun x b=>?_),h.adr,fun x b=>?_⟩
 ·obtain⟨_,a,c⟩:=h.far x b
  rintro (e | e)
  ·exact a e
  ·exact c e
 ·obtain⟨g,a,c⟩:=h.far x b
  exact⟨QW g t.1.size,a,t.fresh x g c⟩
theorem AU.Va{e:Ex}(h:AU S T d e)(k:ab [] S o):AU o T d e :=
 ⟨h.view.Va k,h.adr,fun x a=>⟨QW (h.far x a).1 k.size,(h.far x a).2⟩⟩
def pV(vs:List ByteArray)(be:List Ex):Nat->dN
 | 0=>aB vs
 | 1=>gn be
 | _+2=>aB []
def oR(vs:List ByteArray)(be:List Ex)(H:Nat->Hd):List Value:=[.slice (H 0).ao vs.length (H 0).cap,.slice (H 1).ao be.length (H 1).cap]
structure l9(w:World)(b:Nat)(vs:List ByteArray)(be:List Ex)(H:Nat->Hd):Prop where
 bag:a8 w b 343 (oR vs be H) (pV vs be) H
 len:be.length=vs.length
 exs:∀e∈be,AU w b H e
theorem l9.Va{a:List Ex}(h:l9 S T v a d)(k:ab [] S o):l9 o T v a d:=⟨h.bag.Va k,h.len,fun e b=>(h.exs e b).Va k⟩
theorem l9.cells{a:List Ex}(h:l9 S T v a d) :
  S.cell? ⟨T,0,none⟩=some (.slice (d 0).ao v.length (d 0).cap)/\S.cell? ⟨T,1,none⟩=some (.slice (d 1).ao a.length (d 1).cap):=⟨h.bag.cell 0,h.bag.cell 1⟩
def Dt(a b:List ByteArray):Bool:=a.map (·.toList)==b.map (·.toList)
theorem Nl(h:v.length≠N.length):Dt v N=false:=by
 unfold Dt;rw[Rg];intro e;have:=congrArg List.length e;simp at this;exact h this
theorem OR(b:f<v.length)(a:f<N.length)(h:(v[f].toList==N[f].toList)=false):Dt v N=false:=by
 unfold Dt;rw[Rg]at h ⊢;intro e;have:=congrArg (fun l=>l[f]?) e;simp[b,a]at this;exact h this
theorem Gc(c:v.length=N.length)(h:∀k (b:k<v.length) (a:k<N.length),(v[k].toList==N[k].toList)=true):Dt v N=true:=by
 unfold Dt;rw[Tw]
 apply UM
 ·simpa using c
 ·intro k b a
  simp at b a ⊢;exact Tw.1 (h k b a)
theorem ym(X:jT H z5 n)(L:jT H i l)(Z:n.length<=1073741824)(U:l.length<=1073741824) :
  Calls prog 211 #[.slice z5.ao n.length z5.cap,.slice i.ao l.length i.cap] H fun e T=>e=.returned (.bool (Dt n l))/\ab [] H T:=by
 obtain⟨S,C⟩:=z5;obtain⟨N,y⟩:=i
 by_cases d:n.length=l.length
 ·have M:((n.length:Int) != l.length)=false:=by simp[d]
  by_cases D:n.length=0
  ·have c:Hid (Dt n l=true):=Gc d (fun k z5 i=>by omega)
   have Q:¬(0:Int)<n.length:=by omega
   go_enter func211,ntmps211;go_wp2;refine SV 1 ?_;rw[Tq];go_wp2;go_ret;exact⟨aD c.out.symm,ab.refl _ _⟩
  ·rcases X with rfl | ⟨g,s,Y,t,A,B,x,R,O⟩
   ·simp at D
   rcases L with rfl | ⟨V,f,E,t',F,G,w,P,W⟩
   ·simp at d;simp[d]at D
   simp only at A F R O P W;subst A;subst F;go_enter func211,ntmps211;go_wp2
   go_loopg [5] n.length (fun gk a wr=>∃k:Nat,k<=n.length/\gk=n.length-k/\a=.int .i64 k/\Hid (∀a (p:a<n.length) (o:a<l.length),a<k->(n[a].toList==l[a].toList)=true)/\ab [] H wr)
   case atStart=>exact⟨0,by omega,by omega,rfl,fun a _ _ K=>by omega,ab.refl _ _⟩
   case round =>
    obtain⟨k,hk,hg,rfl,b,r⟩:=hrel
    by_cases q:k<n.length
    ·have h:k<l.length:=by omega
     have c1:wr.cell? ⟨g,s+k,none⟩=some (.string n[k]):=(aa (r.get B (by simp)) (s+k)).trans (x k n[k] (QO q));have c2:wr.cell? ⟨V,f+k,none⟩=some (.string l[k]):=(aa (r.get G (by simp)) (f+k)).trans (w k l[k] (QO h));have J:(k:Int)<n.length:=by omega
     have z:(k:Int)<l.length:=by omega
     have m:=hI (OR k q h)
     have j:Hid ((n[k].toList==l[k].toList)=true->∀a (p:a<n.length) (o:a<l.length),a<k+1->(n[a].toList==l[a].toList)=true):=by
      intro I a p o K
      by_cases e:a=k
      ·subst e;exact I
      ·exact b.out a p o (by omega)
     clear b x w B G
     cases u:(n[k].toList==l[k].toList)
     ·have c:=hI (m.out u)
      have v:(n[k].toList != l[k].toList)=true:=by simp[bne,u]
      clear m j d
      go_upto_region 6 with fail
      go_quiet (fail)
      go_wp2;go_ret;exact⟨aD c.out.symm,r.drewN _⟩
     ·have c:=hI (j.out u)
      have v:(n[k].toList != l[k].toList)=false:=by simp[bne,u]
      clear m j d
      go_upto_region 6 with fail
      go_quiet (fail)
      go_wp2
      go_roundg (n.length-(k+1))
      case measure=>omega
      case rel=>exact⟨k+1,by omega,rfl,by go_num,c.out,r.drewN _⟩
    ·have c:Hid (Dt n l=true):=Gc d (fun a p o=>b.out a p o (by omega))
     clear b x w;go_wp2;go_ret;exact⟨aD c.out.symm,r⟩
 ·have c:Hid (Dt n l=false):=Nl d
  have M:((n.length:Int) != l.length)=true:=by simp[bne];omega
  go_enter func211,ntmps211;go_wp2;go_ret;exact⟨aD c.out.symm,ab.refl _ _⟩
theorem JI(q:List Ex)(H:Nat->Hd)(x:ByteArray)(d:World)(h:l9 d w l q H)(D:l.length<=1073741824) :
  Calls prog 278 #[.pointer (some ⟨w,0,none⟩),.string x] d fun e v=>e=.returned (.int .i64 (nz (pt l x)))/\v=d:=by
 obtain⟨s,z⟩:=h.cells;have j:=h.len;have a:aw d (H 0) (aB l):=h.bag.own 0;rw[j]at z;go_enter func278,ntmps278;go_wp2
 go_loopg [5] l.length (fun g i wr=>∃k:Nat,k<=l.length/\g=l.length-k/\i=.int .i64 k/\Hid (∀i,i<k->((l.getD i ⟨#[]⟩).toList==x.toList)=false)/\wr=d)
 case atStart=>exact⟨0,by omega,by omega,rfl,fun i n=>by omega,rfl⟩
 case round =>
  obtain⟨k,C,E,rfl,b,rfl⟩:=hrel
  by_cases c:k<l.length
  ·rcases a.ways with ⟨_,u,_⟩ | ⟨g,B,o,-,A,-⟩
   ·have:l.length=0:=u
    omega
   ·have F:=a.cell o k (.string l[k]) (tB l k c)
    rw[o]at s;have f:=hI (qk l k c);have r:l.length<=(H 0).cap:=A;generalize l[k]=y at *
    cases p:(y.toList==x.toList)
    ·have t:Hid (∀i,i<k+1->((l.getD i ⟨#[]⟩).toList==x.toList)=false):=by
      intro i n
      by_cases e:i=k
      ·subst e;rw[f.out];exact p
      ·exact b.out i (by omega)
     clear f h a;go_wp2
     go_roundg (l.length-(k+1))
     case measure=>omega
     case rel=>exact⟨k+1,by omega,rfl,by go_num,t,rfl⟩
    ·have m:Hid (pt l x=some k):=nU c (by rw[f.out];exact p) b.out
     clear f h a;go_wp2;go_ret;exact⟨QM (by rw[m.out];rfl),rfl⟩
  ·have m:Hid (pt l x=none):=mH (fun i n=>b.out i (by omega))
   clear h a;go_wp2;go_ret;exact⟨QM (by rw[m.out];rfl),rfl⟩
theorem tD{P:Program}{q:Array Oper}{l:List Oper}{o:Oper}{a:Act}{Q:Exit->Act->World->Prop}(T:o.guard=none)(s x:Operand)(t:TypeId)(E:o.op=Op.call { callee:=Callee.builtin Builtin.append,args:=#[s,x],argTypes:=#[t,t] })(i:TypeInfo)(z:Value)(d:Nat)(h:Hd)(r:dN)(M:P.underlying t=some (.slice r.e))(O:P.info? r.e=some i)(R:i.zero=some z)(Y:i.size=r.size)(L:i.bytes=d)(N:z.cells.size=r.size)(X:0<r.size)(U:a.eval s=.slice h.ao r.n h.cap)(A:aw H h r)(F:Addr)(m c:Nat)(b:List Value)(W:a.eval x=.slice (some F) m c)(K:b.length=m*r.size)(J:∀j u,b[j]?=some u->H.cell? (F.add j)=some u)(D:∀u∈b,u.oneCell'=true)(V:r.n+m<=maxLen)(S:(r.n+m)*d<=140737488355328)(I:∀f p,aw p f ⟨r.e,r.size,r.n+m,r.xs++b⟩->H.grownBy p h.blk->(f.blk=h.blk∨f.blk=some H.heap.size)->wpList P q Q l (a.put o.dst (.slice f.ao (r.n+m) f.cap)) p) :
  wpList P q Q (o :: l) a H:=by
 refine wpList_append_own_at H T s x t E 0 r.e i z r.size d M O R Y L N X (.slice h.ao r.n h.cap) r.n r.xs U A F m c b W K J D V S (Rn _) ?_;intro Z p C B q3 v;rw[Ap]at B v
 rcases C.2 with ⟨w,y⟩ | ⟨g,k,G,w,y⟩
 ·have:=I ⟨none,0⟩ p ⟨C.1,Q0 ⟨by rw[y],y⟩⟩ B (by rw[w]at v;exact v)
  rw[w];rw[y]at this;exact this
 ·have:=I ⟨some ⟨g,0,none⟩,k⟩ p ⟨C.1,QU ⟨g,k,G,rfl,y⟩⟩ B (by rw[w]at v;exact v)
  rw[w];exact this
def G6(vs:List ByteArray)(bs:List (List ByteArray))(x:ByteArray):List ByteArray:=match pt vs x with | none=>[x] | some i=>bs.getD i []
def lx(vs:List ByteArray)(bs:List (List ByteArray)):List ByteArray->List ByteArray->List ByteArray
 | [],acc=>acc
 | x :: r,acc=>if acc.length<=32 then lx vs bs r (acc++G6 vs bs x) else acc
def nX(vs:List ByteArray)(bs:List (List ByteArray))(sy:List ByteArray):List ByteArray:=lx vs bs sy []
theorem N3(a:f<n.length)(b:l.length<=32):lx x L (n.drop f) l=lx x L (n.drop (f+1)) (l++G6 x L n[f]):=by
 rw[Re a,lx,QV b]
theorem Ju(a:¬l.length<=32):lx x L n l=l:=by
 cases n with
 | nil=>rfl
 | cons b r=>rw[lx,QS a]
theorem Mf(a:¬f<n.length):lx x L (n.drop f) l=l:=by
 rw[R6 (by omega)];rfl
theorem KH(a:ByteArray)(M:Nat)(c:1<=M)(h:∀b∈L,b.length<=M):(G6 x L a).length<=M:=by
 unfold G6
 split
 ·simpa using c
 ·next i _ =>
  rw[QP]
  cases e:L[i]? with
  | none=>simp
  | some b=>simpa using h b (R2 e)
theorem E3(g:1<=f)(h:∀b∈L,b.length<=f)(c a:List ByteArray)(d:a.length<=32+f):(lx x L c a).length<=32+f:=by
 induction c generalizing a with
 | nil=>exact d
 | cons e r i =>
  rw[lx]
  split
  ·have:=KH x L e f g h
   exact i _ (by simp;omega)
  ·exact d
theorem Jt(c:1<=f)(h:∀b∈L,b.length<=f)(a:List ByteArray):(nX x L a).length<=32+f:=E3 x L f c h a [] (by simp)
theorem JC:(⟨(aB n).e,(aB n).size,(aB n).n+l.length,(aB n).xs++cN l⟩:dN)=aB (n++l):=by simp[aB,cN]
theorem jT.cells{d:Addr}(m:jT S z6 v)(e:z6.ao=some d):∀j u,(cN v)[j]?=some u->S.cell? (d.add j)=some u:=by
 intro j u h
 rcases m with rfl | ⟨g,a,l,t,f,n,k,-⟩
 ·simp[cN]at h
 ·rw[e]at f
  cases f
  have b:(v[j]?).map Value.string=some u:=by simpa [cN] using h
  cases c:v[j]? with
  | none=>rw[c]at b;cases b
  | some x =>
   rw[c]at b;cases b
   have:(⟨g,a,none⟩:Addr).add j=⟨g,a+j,none⟩:=by
    simp only[Addr.add]
    split
    ·next i=>subst i;rfl
    ·rfl
   rw[this,aa n];exact k j x c
theorem pS(f:List Ex)(H:Nat->Hd)(hy:Hd)(d:List ByteArray)(z:World)(h:l9 z w l f H)(hl:l.length<=10000)(ar:∀e∈f,e.xs.length<=10000)(hv:jT z hy d)(ag:d.length<=10000) :
  Calls prog 274 #[.pointer (some ⟨w,0,none⟩),.slice hy.ao d.length hy.cap] z fun e w'=>∃o:Hd,
   e=.returned (.slice o.ao (nX l (f.map Ex.xs) d).length o.cap)/\aw w' o (aB (nX l (f.map Ex.xs) d))/\(∀x,o.blk=some x->z.heap.size<=x)/\ab [] z w':=by
 obtain⟨i0,hi,P,S,af⟩:=Rd js;obtain⟨ao,a1⟩:=hy
 rcases hv with rfl | ⟨g,U,a0,t,e1,e2,e3,e4,e5⟩
 ·clear ag
  go_enter func274,ntmps274;go_wp2;refine SV 1 ?_;rw[Tq];go_wp2;go_ret;exact⟨⟨none,0⟩,rfl,QY _ _ _ _,by intro x s;simp[Hd.blk]at s,ab.refl _ _⟩
 simp only at e1 e4 e5;subst e1;obtain⟨R,HR⟩:∃R,Hid (R=nX l (f.map Ex.xs) d):=⟨_,rfl⟩
 rw[<-HR.out];go_enter func274,ntmps274;go_wp2
 go_loopg [5,6] d.length (fun gk sv i wr=>∃(k:Nat) (o:Hd) (a:List ByteArray),k<=d.length/\gk=d.length-k/\i=.int .i64 k/\sv=.slice o.ao a.length o.cap/\a.length<=10032/\Hid (R=lx l (f.map Ex.xs) (d.drop k) a)/\aw wr o (aB a)/\(∀x,o.blk=some x->z.heap.size<=x)/\ab [] z wr)
 case atStart=>exact⟨0,⟨none,0⟩,[],by omega,by omega,rfl,rfl,by simp,HR.out,QY _ _ _ _,by intro x s;simp[Hd.blk]at s,ab.refl _ _⟩
 case round =>
  obtain⟨k,o,a,hk,hg,rfl,rfl,aT,q,O,L,F⟩:=hrel;have Z:=h.Va F
  by_cases E:k<d.length
  ·by_cases ha:a.length<=32
   ·have ap:(a.length:Int)<=32:=by omega
    have c2:wr.cell? ⟨g,U+k,none⟩=some (.string d[k]):=(aa (F.get e2 (by simp)) (U+k)).trans (e3 k d[k] (QO E));have A:=hI (q.out.trans (N3 l (f.map Ex.xs) d a k E ha));have V:=hI (fun w1 h1=>JI w l f H d[k] w1 h1 (by omega));clear q e3;generalize d[k]=y at *
    rcases hp:pt l y with _ | p
    ·have c:Hid (R=lx l (f.map Ex.xs) (d.drop (k+1)) (a++[y])):=by show _=_;rw[A.out];simp[G6,hp]
     have X:=O.Vf (fun x s=>((ab.refl [] wr).alloc (.cells #[.string y] 9)).block x (O.lt s) (by simp));clear A
     go_upto_region 7 with (go_at_call 278;refine(V.out _ Z).mono ?_;rintro e w3 ⟨rfl,C⟩;rw[C,hp];simp only[nz])
     go_wp2_with (at_builtin;refine aM _ rfl (.tmp 27) (.tmp 32) 61 rfl i0 (.string ⟨#[]⟩) 16 o (aB a) underlying61 hi P S af rfl Rb rfl (by exact X) ⟨_,0,none⟩ 1 1 [.string y] rfl rfl ?d1 ?d2 Rb ?d3 ?d4 ?_)
     case d1=>intro j u hj;match j,hj with | 0,hj=>simp at hj;subst hj;simp[Addr.add]
     case d2=>intro u T;simp at T;subst T;rfl
     case d3=>simp only[aB];unfold maxLen;omega
     case d4=>simp only[aB];omega
     intro g5 M w5 v m b;rw[dr a y]at v;have N:=F.alloc (.cells #[.string y] 9);have J:=N.grown m L
     have Q:z.heap.size<=g5:=by
      rcases b with e | e
      ·exact L g5 e
      ·have:=N.size;simp at e this;omega
     have K:Hid ((aB a).n+1=(a++[y]).length):=by show _=_;simp[aB]
     rw[K.out];clear m b X;go_wp2
     go_roundg (d.length-(k+1))
     case measure=>omega
     case rel=>exact⟨k+1,⟨some ⟨g5,0,none⟩,M⟩,a++[y],by omega,rfl,by go_num,rfl,by simp;omega,c.out,v,by intro x s;simp[Hd.blk]at s;omega,J⟩
    ·have a2:p<l.length:=by
      have:=Ry hp;simpa using this
     have aS:=h.len;have B:p<f.length:=by omega
     have c:Hid (R=lx l (f.map Ex.xs) (d.drop (k+1)) (a++f[p].xs)):=by show _=_;rw[A.out];simp[G6,hp,B]
     have D:=Z.exs f[p] (Ra B);have an:=ar f[p] (Ra B);obtain⟨ad,G⟩:=D.adr;have W:=D.view.cells G;obtain⟨s0,s1⟩:=Z.cells;have I:aw wr (H 1) (gn f):=Z.bag.own 1
     rcases I.ways with ⟨_,h0,_⟩ | ⟨gb,az,eb,-,ai,-⟩
     ·have:f.length=0:=h0
      omega
     have cb:=I.cell eb p (vZ f[p]) (sA f p B);have ax:f.length<=(H 1).cap:=ai;rw[eb]at s1;unfold vZ at cb;rw[G]at cb;have Y:=hI W;clear A D G W I eb;generalize f[p]=ex at *;obtain⟨al,r⟩:=ex;simp only at cb an c Y
     go_upto_region 8 with (go_at_call 278;refine(V.out _ Z).mono ?_;rintro e w3 ⟨rfl,C⟩;rw[C,hp];simp only[nz])
     go_wp2_with (at_builtin;refine tD _ rfl (.tmp 34) (.tmp 41) 61 rfl i0 (.string ⟨#[]⟩) 16 o (aB a) underlying61 hi P S af rfl Rb rfl (by exact O) ad r.length al.cap (cN r) rfl (by simp[cN,aB]) Y.out ?d2 ?d3 ?d4 ?_)
     case d2=>intro u T;simp[cN]at T;obtain⟨_,_,rfl⟩:=T;rfl
     case d3=>simp only[aB];unfold maxLen;omega
     case d4=>simp only[aB];omega
     intro ac w5 v m b;rw[JC a r]at v;have J:=F.grown m L
     have Q:∀x,ac.blk=some x->z.heap.size<=x:=by
      intro x s
      rcases b with e | e
      ·exact L x (e ▸ s)
      ·rw[e]at s;cases s;exact F.size
     have K:Hid ((aB a).n+r.length=(a++r).length):=by show _=_;simp[aB]
     rw[K.out];clear m b;go_wp2
     go_roundg (d.length-(k+1))
     case measure=>omega
     case rel=>exact⟨k+1,ac,a++r,by omega,rfl,by go_num,rfl,by simp;omega,c.out,v,Q,J⟩
   ·have ap:¬(a.length:Int)<=32:=by omega
    have c:Hid (a=R):=(q.out.trans (Ju _ _ _ _ ha)).symm;clear q e3;go_wp2;go_ret;exact⟨o,by rw[<-c.out];rfl,by rw[<-c.out];exact O,L,F⟩
  ·have c:Hid (a=R):=(q.out.trans (Mf _ _ _ _ _ E)).symm
   clear q e3;go_wp2;go_ret;exact⟨o,by rw[<-c.out];rfl,by rw[<-c.out];exact O,L,F⟩
def mV(s:St)(e:List ByteArray)(S:List ByteArray×List (List ByteArray)):Int×List ByteArray×List (List ByteArray) :=
 if(s.kind==3)=true then(if Dt (nX S.1 S.2 s.U5) e=true then(0,S) else(8,S))
 else match e with
  | []=>(7,S)
  | x :: r=>if(x.toList==(iz s).toList)=true then(0,S.1++[aL s],S.2++[r]) else(7,S)
structure qZ(w:World)(b:Nat)(H:Nat->Hd)(h:Hd)(l:List ByteArray):Prop where
 view:jT w h l
 far:∀x,h.blk=some x->x<w.heap.size/\x≠b/\¬f9 H x
theorem qZ.Va(f:qZ S T d z6 v)(k:ab [] S o):qZ o T d z6 v :=
 ⟨f.view.Va k,fun x a=>⟨QW (f.far x a).1 k.size,(f.far x a).2⟩⟩
def jb(g off cap:Nat)(r:List ByteArray):Ex:=⟨⟨if cap=1 then some ⟨g,off,none⟩ else some ⟨g,off+1,none⟩,cap-1⟩,r⟩
theorem MB:(jb D I w l).hd.blk=some D:=by unfold jb Hd.blk;simp only;split <;> rfl
theorem Of{x:ByteArray}(h:qZ S T d ⟨some ⟨a,g,none⟩,f⟩ (x :: v)):AU S T d (jb a g f v):=by
 have l:(jb a g f v).hd.blk=some a:=by unfold jb Hd.blk;simp only;split <;> rfl
 refine⟨?_,?_,fun y b=>h.far y (by rw[l]at b;exact b)⟩
 ·by_cases e:v=[]
  ·subst e;exact Q0 rfl
  ·rcases h.view with o | ⟨s,i,c,t,p,q,n,k,m⟩
   ·cases o
   ·cases p
    have r:0<v.length:=TT.2 e;simp only[Ro]at k;refine QU ⟨a,g+1,c,t,by simp only[jb];rw[QS (by omega)],q,fun j y b=>?_,by simp only[jb];omega,by simp only[jb]at m ⊢;omega⟩;have:=n (j+1) y (by simpa [jb] using b);rw[show g+1+j=g+(j+1) by omega];exact this
 ·unfold jb
  simp only
  split
  ·exact⟨_,rfl⟩
  ·exact⟨_,rfl⟩
theorem Nq(a:List Ex)(H:Nat->Hd)(s:St)(o C P:Hd)(F:List ByteArray)(c:World)(h:l9 c w l a H)(hl:l.length<=9999)(ap:∀e∈a,e.xs.length<=10000)(hs:jT c o s.U5)(bc:s.U5.length<=10000)(hx:qZ c w H P F)(br:F.length<=10000) :
  Calls prog 272 #[.pointer (some ⟨w,0,none⟩),ee s o C,.slice P.ao F.length P.cap] c fun e f=>∃(U:List Ex) (H':Nat->Hd),
   e=.returned (.int .i64 (mV s F (l,a.map Ex.xs)).1)/\l9 f w (mV s F (l,a.map Ex.xs)).2.1 U H'/\U.map Ex.xs=(mV s F (l,a.map Ex.xs)).2.2/\aA w c H f H'/\∀e∈U,e∈a∨e.hd.blk=P.blk:=by
 obtain⟨i0,hi,a0,a3,bd⟩:=Rd js;obtain⟨i1,bf,az,ar,a6⟩:=Rd Lr;have bl:a.length<=9999:=by have:=h.len;omega
 unfold ee;obtain⟨W,hW⟩:∃W,W=c.alloc (.cells #[.int .i64 s.kind,.string s.label,.slice o.ao s.U5.length o.cap,.slice C.ao s.proof.length C.cap,.string s.fin.file,.int .i64 s.fin.line,.int .i64 s.fin.col,.int .i64 s.til] 158):=⟨_,rfl⟩
 have K:ab [] c W:=by rw[hW];exact(ab.refl [] _).alloc _
 have B:W.heap[c.heap.size]?=some (.cells #[.int .i64 s.kind,.string s.label,.slice o.ao s.U5.length o.cap,.slice C.ao s.proof.length C.cap,.string s.fin.file,.int .i64 s.fin.line,.int .i64 s.fin.col,.int .i64 s.til] 158 (0,0)):=by rw[hW];exact QR _ _
 have HW:=hI hW.symm;have u0:W.cell? ⟨c.heap.size,0,none⟩=some (.int .i64 s.kind):=by rw[aa B];rfl
 have u1:W.cell? ⟨c.heap.size,1,none⟩=some (.string s.label):=by rw[aa B];rfl
 have u2:W.cell? ⟨c.heap.size,2,none⟩=some (.slice o.ao s.U5.length o.cap):=by rw[aa B];rfl
 have u3:W.cell? ⟨c.heap.size,3,none⟩=some (.slice C.ao s.proof.length C.cap):=by rw[aa B];rfl
 have u4:W.cell? ⟨c.heap.size,4,none⟩=some (.string s.fin.file):=by rw[aa B];rfl
 have u5:W.cell? ⟨c.heap.size,5,none⟩=some (.int .i64 s.fin.line):=by rw[aa B];rfl
 have u6:W.cell? ⟨c.heap.size,6,none⟩=some (.int .i64 s.fin.col):=by rw[aa B];rfl
 have u7:W.cell? ⟨c.heap.size,7,none⟩=some (.int .i64 s.til):=by rw[aa B];rfl
 have V:=h.Va K;have L:=hs.Va K;have ai:=hx.Va K;clear hW
 cases N:(s.kind==3)
 ·rcases F with _ | ⟨x,r⟩
  ·have v:Hid (mV s [] (l,a.map Ex.xs)=(7,l,a.map Ex.xs)):=by show _=_;simp[mV,N]
   clear u1 u2 u3 u4 u5 u6 u7;go_enter func272,ntmps272
   go_upto_region 1 with fail
   rw[HW.out]
   go_upto_region 5 with fail
   go_quiet (fail)
   go_wp2;go_ret;exact⟨a,H,QM (by rw[v.out]),by rw[v.out];exact V.Va ((ab.refl [] _).drewN _),by rw[v.out],(aA.refl _ _ _).Va (K.drewN _),fun _ q=>Q0 q⟩
  ·obtain⟨bk,b⟩:=P
   rcases ai.view with af | ⟨g,d,bv,t,e1,e2,e3,e4,e5⟩
   ·cases af
   simp only at e1 e4 e5;subst e1;have a1:¬((r.length:Int)+1==0)=true:=by simp;omega
   have HN:Hid ((x :: r).length=r.length+1):=rfl;have bs:(0:Int)<(r.length:Int)+1:=by omega
   have bj:(1:Int)<=(r.length:Int)+1:=by omega
   rw[HN.out]at *;have cx:W.cell? ⟨g,d,none⟩=some (.string x):=by have:=(aa e2 d).trans (by simpa using e3 0 x rfl);exact this
   have bo:=ae e2;have TC:=AD s o C;unfold ee at TC;have Y:=hI TC
   have HC:Hid (∀f,ab [] W.drew f->f.cell? ⟨g,d,none⟩=some (.string x)/\f.cell? ⟨c.heap.size,0,none⟩=some (.int .i64 s.kind)/\f.cell? ⟨c.heap.size,1,none⟩=some (.string s.label)/\f.cell? ⟨c.heap.size,2,none⟩=some (.slice o.ao s.U5.length o.cap)/\f.cell? ⟨c.heap.size,3,none⟩=some (.slice C.ao s.proof.length C.cap)/\f.cell? ⟨c.heap.size,4,none⟩=some (.string s.fin.file)/\f.cell? ⟨c.heap.size,5,none⟩=some (.int .i64 s.fin.line)/\f.cell? ⟨c.heap.size,6,none⟩=some (.int .i64 s.fin.col)/\f.cell? ⟨c.heap.size,7,none⟩=some (.int .i64 s.til)):=by
    intro f k;have q:=k.get (show W.drew.heap[c.heap.size]?=_ from B) (by simp);have q2:=k.get (show W.drew.heap[g]?=_ from e2) (by simp);refine⟨(aa q2 d).trans (by simpa using e3 0 x rfl),?_,?_,?_,?_,?_,?_,?_,?_⟩ <;> (rw[aa q];rfl)
   clear TC e3;go_enter func272,ntmps272
   go_upto_region 1 with fail
   rw[HW.out]
   go_upto_region 5 with fail
   cases hc:(x.toList==(iz s).toList)
   ·have v:Hid (mV s (x :: r) (l,a.map Ex.xs)=(7,l,a.map Ex.xs)):=by show _=_;simp[mV,N,hc]
    have ba:(x.toList != (iz s).toList)=true:=by simp[bne,hc]
    go_region_held3 (fun f=>f.cell? ⟨g,d,none⟩=some (.string x)/\f.cell? ⟨c.heap.size,0,none⟩=some (.int .i64 s.kind)/\f.cell? ⟨c.heap.size,1,none⟩=some (.string s.label)/\f.cell? ⟨c.heap.size,2,none⟩=some (.slice o.ao s.U5.length o.cap)/\f.cell? ⟨c.heap.size,3,none⟩=some (.slice C.ao s.proof.length C.cap)/\f.cell? ⟨c.heap.size,4,none⟩=some (.string s.fin.file)/\f.cell? ⟨c.heap.size,5,none⟩=some (.int .i64 s.fin.line)/\f.cell? ⟨c.heap.size,6,none⟩=some (.int .i64 s.fin.col)/\f.cell? ⟨c.heap.size,7,none⟩=some (.int .i64 s.til)) (go_keep) (first | (go_at_call 191;refine(Y.out _ (by exact L.Va (ab.refl [] _).drew) (by omega)).mono ?_;rintro e S ⟨rfl,E⟩;obtain⟨x0,x1,x2,x3,x4,x5,x6,x7,x8⟩:=HC.out S E))
    all_goals
     clear u0 u1 u2 u3 u4 u5 u6 u7 cx;go_wp2;go_ret;exact⟨a,H,QM (by rw[v.out]),by rw[v.out];exact V.Va (((ab.refl [] _).drew).trans E),by rw[v.out],(aA.refl _ _ _).Va (K.drew.trans E),fun _ q=>Q0 q⟩
   ·have v:Hid (mV s (x :: r) (l,a.map Ex.xs)=(0,l++[aL s],a.map Ex.xs++[r])):=by show _=_;simp[mV,N,hc]
    have ba:(x.toList != (iz s).toList)=false:=by simp[bne,hc]
    have VA:=mo s o C;unfold ee at VA;have a5:=hI VA;clear VA
    go_region_held3 (fun f=>f.cell? ⟨g,d,none⟩=some (.string x)/\f.cell? ⟨c.heap.size,0,none⟩=some (.int .i64 s.kind)/\f.cell? ⟨c.heap.size,1,none⟩=some (.string s.label)/\f.cell? ⟨c.heap.size,2,none⟩=some (.slice o.ao s.U5.length o.cap)/\f.cell? ⟨c.heap.size,3,none⟩=some (.slice C.ao s.proof.length C.cap)/\f.cell? ⟨c.heap.size,4,none⟩=some (.string s.fin.file)/\f.cell? ⟨c.heap.size,5,none⟩=some (.int .i64 s.fin.line)/\f.cell? ⟨c.heap.size,6,none⟩=some (.int .i64 s.fin.col)/\f.cell? ⟨c.heap.size,7,none⟩=some (.int .i64 s.til)) (go_keep) (first | (go_at_call 191;refine(Y.out _ (by exact L.Va (ab.refl [] _).drew) (by omega)).mono ?_;rintro e S ⟨rfl,E⟩;obtain⟨x0,x1,x2,x3,x4,x5,x6,x7,x8⟩:=HC.out S E))
    all_goals
     have M:=V.Va (((ab.refl [] _).drew).trans E);have bw:=M.bag.lt;have ax:=M.bag.free;obtain⟨m0,m1⟩:=M.cells;have a4:=L.Va (((ab.refl [] _).drew).trans E);clear u0 u1 u2 u3 u4 u5 u6 u7 cx x0
     go_upto_region 7 with fail
     have s4:Hid ((aB l).n+1<=maxLen):=by show _<=_;simp only[aB];unfold maxLen;omega
     have s5:Hid (((aB l).n+1)*16<=140737488355328):=by show _<=_;simp only[aB];omega
     have s3:Hid (∀u∈([.string (aL s)]:List Value),u.oneCell'=true):=by intro u hu;simp at hu;subst hu;rfl
     have bg:Hid (∀J,ab [] S.drew J->l9 J w l a H/\l9 (J.alloc (.cells #[.string (aL s)] 9)) w l a H/\∀j u,([.string (aL s)]:List Value)[j]?=some u->(J.alloc (.cells #[.string (aL s)] 9)).cell? ((⟨J.heap.size,0,none⟩:Addr).add j)=some u):=by
      intro J k;have q:=M.Va (((ab.refl [] S).drew).trans k);refine⟨q,q.Va ((ab.refl [] _).alloc _),fun j u G=>?_⟩;have N:(J.alloc (.cells #[.string (aL s)] 9)).heap[J.heap.size]?=some (.cells #[.string (aL s)] 9 (0,0)):=QR _ _;rw[bL,aa N];simpa using G
     have aS:Hid (∀j,j≠0->pV (l++[aL s]) a j=pV l a j):=by
      intro j G
      match j,G with
      | 0,G=>exact absurd rfl G
      | 1,_=>rfl
      | m+2,_=>rfl
     go_region_law (first | (refine cd rfl (.tmp 32) (.tmp 35) 61 rfl i0 (.string ⟨#[]⟩) 16 (H 0) (aB l) underlying61 hi a0 a3 bd rfl Rb (by simp[Act.eval] <;> rfl) (y1.bag.own 0) ⟨_,0,none⟩ 1 1 [.string (aL s)] (by simp[Act.eval] <;> rfl) rfl y2 s3.out Rb s4.out s5.out ?_;intro I i w5 ac al D;obtain⟨k5,f5,HP⟩:=a8.app y1.bag (cs':=oR (l++[aL s]) a (g9 H 0 ⟨some ⟨I,0,none⟩,i⟩)) (rows':=pV (l++[aL s]) a) 0 0 I i ((aB l).n+1) _ ac (dr l (aL s)) al (by simpa using D) aS.out (.slice (H 0).ao l.length (H 0).cap) rfl (by simp[oR,g9,aB]);clear ac al D) | (go_simp;go_at_call 189;refine(a5.out _ (by exact a4.Va (ab.refl [] _).drew) (by omega)).mono ?_;rintro e J ⟨rfl,k4⟩;obtain⟨y0,y1,y2⟩:=bg.out J k4;obtain⟨n0,n1⟩:=y0.cells;obtain⟨p0,p1⟩:=y1.cells))
     all_goals
      generalize hX:w5.setCell ⟨w,0,none⟩ (.slice (some ⟨I,0,none⟩) ((aB l).n+1) i)=X at HP ⊢;have T5:Hid (aA w c H X (g9 H 0 ⟨some ⟨I,0,none⟩,i⟩)):=(((HP.out.2.first ((ab.refl [] _).alloc _)).first (((ab.refl [] S).drew).trans k4)).first (K.drew.trans E));have D5:=HP.out.1;have q1:=D5.cell 1;have a7:=D5.free;have bp:=D5.lt;simp only[oR,SD,Td]at q1;clear hX k5 f5 n0 n1 p0 p1 y0 y1 y2 m0 m1 ax x1 x2 x3 x4 x5 x6 x7 x8
      go_upto_region 8 with fail
      have hD:Hid (a8 (X.alloc (.cells #[vZ (jb g d b r)] 61)).drew w 343 (oR (l++[aL s]) a (g9 H 0 ⟨some ⟨I,0,none⟩,i⟩)) (pV (l++[aL s]) a) (g9 H 0 ⟨some ⟨I,0,none⟩,i⟩)):=D5.Va ((ab.refl [] X).alloc _).drew
      have s2:Hid (∀j u,([vZ (jb g d b r)]:List Value)[j]?=some u->(X.alloc (.cells #[vZ (jb g d b r)] 61)).drew.cell? ((⟨X.heap.size,0,none⟩:Addr).add j)=some u):=by
       intro j u G;have N:(X.alloc (.cells #[vZ (jb g d b r)] 61)).drew.heap[X.heap.size]?=some (.cells #[vZ (jb g d b r)] 61 (0,0)):=QR _ _;rw[bL,aa N];simpa using G
      have T:Hid (∀u∈([vZ (jb g d b r)]:List Value),u.oneCell'=true):=by intro u hu;simp at hu;subst hu;rfl
      have a2:Hid ((gn a).n+1<=maxLen):=by show _<=_;simp only[gn];unfold maxLen;omega
      have aT:Hid (((gn a).n+1)*24<=140737488355328):=by show _<=_;simp only[gn];omega
      have ag:Hid (∀j,j≠1->pV (l++[aL s]) (a++[jb g d b r]) j=pV (l++[aL s]) a j):=by
       intro j G
       match j,G with
       | 0,_=>rfl
       | 1,G=>exact absurd rfl G
       | m+2,_=>rfl
      unfold vZ at hD s2 T;simp only[jb]at hD s2 T
      go_region_law (refine cd rfl (.tmp 43) (.tmp 46) 218 rfl i1 (.slice none 0 0) 24 (g9 H 0 ⟨some ⟨I,0,none⟩,i⟩ 1) (gn a) underlying218 bf az ar a6 rfl Rb (by simp[Act.eval] <;> rfl) (hD.out.own 1) ⟨X.heap.size,0,none⟩ 1 1 _ (by simp[Act.eval]) rfl s2.out T.out Rb a2.out aT.out ?_;intro g6 Q w6 ad O p;obtain⟨k6,f6,Z⟩:=a8.app hD.out (cs':=oR (l++[aL s]) (a++[jb g d b r]) (g9 (g9 H 0 ⟨some ⟨I,0,none⟩,i⟩) 1 ⟨some ⟨g6,0,none⟩,Q⟩)) (rows':=pV (l++[aL s]) (a++[jb g d b r])) 1 1 g6 Q ((gn a).n+1) _ ad (ue a (jb g d b r)) O (by simpa using p) ag.out (.slice (g9 H 0 ⟨some ⟨I,0,none⟩,i⟩ 1).ao a.length (g9 H 0 ⟨some ⟨I,0,none⟩,i⟩ 1).cap) rfl (by simp[oR,g9,gn]);clear ad O p)
      all_goals
       have T6:=hI (T5.out.trans (Z.out.2.first ((ab.refl [] _).alloc _).drew));clear q1 a7 k6 f6;generalize (if b=1 then some (⟨g,d,none⟩:Addr) else some ⟨g,d+1,none⟩)=AE;go_wp2;go_ret;refine⟨a++[jb g d b r],_,QM (by rw[v.out]),?_,by rw[v.out];simp[jb],T6.out,fun e q=>by rw[Rq]at q;rcases q with q | q;exact Q0 q;simp at q;subst q;exact QU (MB g d b r)⟩;rw[v.out];refine⟨Z.out.1,by simp[h.len],?_⟩;intro e z;rw[Rq]at z
       rcases z with z | z
       ·exact(h.exs e z).turned T6.out
       ·simp at z;subst z
        exact(Of b hx).turned T6.out
 ·go_enter func272,ntmps272
  go_upto_region 1 with fail
  rw[HW.out];have RA:=pS w l a H o s.U5 W V (by omega) ap L bc;have RL:=Jt l (a.map Ex.xs) 10000 (by omega) (by intro y hy;obtain⟨e,P,rfl⟩:=Sh.1 hy;exact ap e P) s.U5;have v:Hid (mV s F (l,a.map Ex.xs)=if Dt (nX l (a.map Ex.xs) s.U5) F=true then(0,l,a.map Ex.xs) else(8,l,a.map Ex.xs)):=by show _=_;simp[mV,N]
  generalize nX l (a.map Ex.xs) s.U5=R at *;clear u1 u3 u4 u5 u6 u7;go_wp2_with fail;refine RA.mono ?_;rintro e w2 ⟨hd,rfl,ho,hn,k2⟩;go_wp2_with fail;refine(ym hd P R F w2 ho.view (ai.view.Va k2) (by omega) (by omega)).mono ?_;rintro e S ⟨rfl,E⟩
  cases an:Dt R F
  ·have A:Hid (mV s F (l,a.map Ex.xs)=(8,l,a.map Ex.xs)):=by show _=_;rw[v.out,an];simp
   clear v RA;go_wp2;go_ret;exact⟨a,H,QM (by rw[A.out]),by rw[A.out];exact(V.Va k2).Va E,by rw[A.out],(aA.refl _ _ _).Va ((K.trans k2).trans E),fun _ q=>Q0 q⟩
  ·have A:Hid (mV s F (l,a.map Ex.xs)=(0,l,a.map Ex.xs)):=by show _=_;rw[v.out,an];simp
   clear v RA;go_wp2;go_ret;exact⟨a,H,QM (by rw[A.out]),by rw[A.out];exact(V.Va k2).Va E,by rw[A.out],(aA.refl _ _ _).Va ((K.trans k2).trans E),fun _ q=>Q0 q⟩
theorem Ci(b:aw H i (bB y))(p:y.length<=1073741824) :
  Calls prog 280 #[.slice i.ao y.length i.cap,.int .i64 f] H fun e s=>e=.returned (.bool (jG y f))/\s=H:=by
 obtain⟨w,u⟩:=i
 rcases b.ways with ⟨r,o,_⟩ | ⟨g,t,n,_⟩
 ·have h:y.length=0:=o
  have m:y=[]:=Rj h;subst m;clear b o h p r;go_enter func280,ntmps280;go_wp2;refine SV 1 ?_;rw[Tq];go_wp2;go_ret;exact⟨rfl,rfl⟩
 ·simp only at n
  subst n;go_enter func280,ntmps280;go_wp2
  go_loopg [5] y.length (fun g q wr=>∃k:Nat,k<=y.length/\g=y.length-k/\q=.int .i64 k/\Hid (jG y f=jG (y.drop k) f)/\wr=H)
  case atStart=>exact⟨0,by omega,by omega,rfl,rfl,rfl⟩
  case round =>
   obtain⟨k,v,x,rfl,c,rfl⟩:=hrel
   by_cases a:k<y.length
   ·have z:=b.cell rfl k (.int .i64 y[k]) (jP y k a)
    cases d:(y[k]==f)
    ·have j:Hid (jG y f=jG (y.drop (k+1)) f):=yC y f k a c.out d
     have l:=(oE y[k] f).trans d;clear c b d;go_wp2
     go_roundg (y.length-(k+1))
     case measure=>omega
     case rel=>exact⟨k+1,by omega,rfl,by go_num,j,rfl⟩
    ·have j:Hid (jG y f=true):=BN y f k a c.out d
     have l:=(oE y[k] f).trans d;clear c b d;go_wp2;go_ret;exact⟨aD j.out.symm,rfl⟩
   ·have j:Hid (jG y f=false):=yD y f k a c.out
    clear c b;go_wp2;go_ret;exact⟨aD j.out.symm,rfl⟩
structure xC(w:World)(b rb ro g n tb:Nat):Prop where
 blk:∃arr t,w.heap[b]?=some (.cells arr t (0,0))/\arr[0]?=some (.pointer (some ⟨rb,ro,none⟩))/\arr[1]?=some (.slice (some ⟨g,0,none⟩) n n)/\arr[2]?=some (.pointer (some ⟨tb,0,none⟩))
theorem xC.Va{c:Nat}(h:xC S T a g zt y6 c)(k:ab [] S o):xC o T a g zt y6 c:=by
 obtain⟨b,t,e,d⟩:=h.blk;exact⟨b,t,k.get e (by simp),d⟩
theorem xC.cells{g:Nat}(h:xC S T a g g zt y6):S.cell? ⟨T,0,none⟩=some (.pointer (some ⟨a,g,none⟩))/\S.cell? ⟨T,1,none⟩=some (.slice (some ⟨g,0,none⟩) zt zt)/\S.cell? ⟨T,2,none⟩=some (.pointer (some ⟨y6,0,none⟩)):=by
 obtain⟨d,t,b,c,e,f⟩:=h.blk;exact⟨(aa b 0).trans c,(aa b 1).trans e,(aa b 2).trans f⟩
def pP(vs:List ByteArray):List ByteArray->List Nat->List Nat
 | [],acc=>acc
 | x :: r,acc=>match pt vs x with
  | none=>pP vs r acc
  | some p=>if jG acc p=true then pP vs r acc else pP vs r (acc++[p])
def kN(vs xs:List ByteArray):List Nat:=pP vs xs []
theorem NU(a:f<l.length):pP n (l.drop f) y=match pt n l[f] with
  | none=>pP n (l.drop (f+1)) y
  | some p=>if jG y p=true then pP n (l.drop (f+1)) y else pP n (l.drop (f+1)) (y++[p]):=by
 rw[Re a];rfl
theorem LT(a:¬f<l.length):pP n (l.drop f) y=y:=by
 rw[R6 (by omega)];rfl
theorem CC(h:∀p∈y,p<n.length):(∀p∈pP n l y,p<n.length)/\(pP n l y).length<=y.length+l.length:=by
 induction l generalizing y with
 | nil=>exact⟨h,by simp[pP]⟩
 | cons x r b =>
  rw[pP]
  split
  ·have:=b y h;exact⟨this.1,by simp;omega⟩
  ·next p c =>
   split
   ·have:=b y h;exact⟨this.1,by simp;omega⟩
   ·have:=b (y++[p]) (by intro q a;simp at a;rcases a with a | rfl;exact h q a;exact Gz c)
    exact⟨this.1,by have d:=this.2;simp at d ⊢;omega⟩
theorem J9(h:T∈kN v N):T<v.length:=(CC v N [] (by simp)).1 T h
theorem FF:(kN n l).length<=l.length:=by have:=(CC n l [] (by simp)).2;unfold kN;simpa using this
theorem wB(hp:xC H y4 y7 y8 D I w)(h:kP H w x M y5 z5)(hl:x.length<=1073741824)(U:jT H i l)(Z:l.length<=1000000) :
  Calls prog 279 #[.pointer (some ⟨y4,0,none⟩),.slice i.ao l.length i.cap] H fun e w'=>∃b:Hd,e=.returned (.slice b.ao (kN x l).length b.cap)/\aw w' b (bB (kN x l))/\(∀d,b.blk=some d->H.heap.size<=d)/\ab [] H w':=by
 obtain⟨i0,hi,Q,V,X⟩:=Rd yF;obtain⟨ao,ai⟩:=i
 rcases U with rfl | ⟨gv,N,an,t,e1,e2,Y,e4,e5⟩
 ·clear Z
  go_enter func279,ntmps279;go_wp2;refine SV 1 ?_;rw[Tq];go_wp2;go_ret;exact⟨⟨none,0⟩,rfl,QY _ _ _ _,by intro d n;simp[Hd.blk]at n,ab.refl _ _⟩
 simp only at e1 e4 e5;subst e1;obtain⟨R,HR⟩:∃R,Hid (R=kN x l):=⟨_,rfl⟩
 rw[<-HR.out];go_enter func279,ntmps279;go_wp2
 go_loopg [5,6] l.length (fun gk sv ag wr=>∃(k:Nat) (b:Hd) (a:List Nat),k<=l.length/\gk=l.length-k/\ag=.int .i64 k/\sv=.slice b.ao a.length b.cap/\a.length<=k/\Hid (R=pP x (l.drop k) a)/\aw wr b (bB a)/\(∀d,b.blk=some d->H.heap.size<=d)/\ab [] H wr)
 case atStart=>exact⟨0,⟨none,0⟩,[],by omega,by omega,rfl,rfl,by simp,HR.out,QY _ _ _ _,by intro d n;simp[Hd.blk]at n,ab.refl _ _⟩
 case round =>
  obtain⟨k,b,a,hk,hg,rfl,rfl,af,q,L,E,A⟩:=hrel;have hr:=h.Va A;obtain⟨p0,p1,p2⟩:=(hp.Va A).cells
  by_cases z:k<l.length
  ·have c2:wr.cell? ⟨gv,N+k,none⟩=some (.string l[k]):=(aa (A.get e2 (by simp)) (N+k)).trans (Y k l[k] (QO z))
   have ac:(k:Int)<l.length:=by omega
   have f:=hI (q.out.trans (NU x l a k z));have g:=hI (fun w1 (k1:ab [] wr w1)=>sY w x M y5 z5 l[k] w1 (hr.Va k1) hl);clear q Y p0 p1;generalize l[k]=y at *
   rcases hpo:pt x y with _ | p
   ·have s:Hid (R=pP x (l.drop (k+1)) a):=by show _=_;rw[f.out,hpo]
    rw[hpo]at g;simp only[nz]at g;clear f
    go_upto_region 5 with fail
    go_quiet ((go_at_call 260;exact Rc (g.out _ ((ab.refl [] _).drewN _))))
    go_wp2
    go_roundg (l.length-(k+1))
    case measure=>omega
    case rel=>exact⟨k+1,b,a,by omega,rfl,by go_num,rfl,by omega,s.out,L.Vf (fun d n=>((ab.refl [] wr).drewN _).block d (L.lt n) (by simp)),E,A.drewN _⟩
   ·rw[hpo]at g
    simp only[nz]at g;have al:(p:Int) ≥ 0:=by omega
    go_upto_region 5 with fail
    go_quiet ((go_at_call 260;exact Rc (g.out _ ((ab.refl [] _).drewN _))))
    obtain⟨J,o⟩:∃J,J=wr.drewN nq:=⟨_,rfl⟩
    rw[<-o];have m:aw J b (bB a):=by rw[o];exact L.Vf (fun d n=>((ab.refl [] wr).drewN _).block d (L.lt n) (by simp))
    have F:ab [] H J:=by rw[o];exact A.drewN _
    clear o
    cases O:jG a p
    ·have s:Hid (R=pP x (l.drop (k+1)) (a++[p])):=by show _=_;rw[f.out,hpo];simp[O]
     have G:=m.Vf (fun d n=>((ab.refl [] J).alloc (.cells #[.int .i64 p] 3)).block d (m.lt n) (by simp));clear f
     go_upto_region 7 with (go_at_call 280;refine(Ci b a p _ (by exact m) (by omega)).mono ?_;rintro e w7 ⟨rfl,v⟩;rw[v,O])
     go_wp2_with (at_builtin;refine aM _ rfl (.tmp 31) (.tmp 33) 26 rfl i0 (.int .i64 0) 8 b (bB a) underlying26 hi Q V X rfl Rb rfl (by exact G) ⟨_,0,none⟩ 1 1 [.int .i64 p] rfl rfl ?d1 ?d2 Rb ?d3 ?d4 ?_)
     case d1=>intro j u P;match j,P with | 0,P=>simp at P;subst P;simp[Addr.add]
     case d2=>intro u hu;simp at hu;subst hu;rfl
     case d3=>simp only[bB];unfold maxLen;omega
     case d4=>simp only[bB];omega
     intro T B w5 C r c;rw[mu a p]at C;have K:=F.alloc (.cells #[.int .i64 p] 3);have W:=K.grown r E
     have ad:H.heap.size<=T:=by
      rcases c with e | e
      ·exact E T e
      ·have:=K.size;simp at e this;omega
     have S:Hid ((bB a).n+1=(a++[p]).length):=by show _=_;simp[bB]
     rw[S.out];clear r c G;go_wp2
     go_roundg (l.length-(k+1))
     case measure=>omega
     case rel=>exact⟨k+1,⟨some ⟨T,0,none⟩,B⟩,a++[p],by omega,rfl,by go_num,rfl,by simp;omega,s.out,C,by intro d n;simp[Hd.blk]at n;omega,W⟩
    ·have s:Hid (R=pP x (l.drop (k+1)) a):=by show _=_;rw[f.out,hpo];simp[O]
     clear f;go_wp2_with (go_at_call 280;refine(Ci b a p _ (by exact m) (by omega)).mono ?_;rintro e w7 ⟨rfl,v⟩;rw[v,O])
     go_roundg (l.length-(k+1))
     case measure=>omega
     case rel=>exact⟨k+1,b,a,by omega,rfl,by go_num,rfl,by omega,s.out,m,E,F⟩
  ·have s:Hid (a=R):=(q.out.trans (LT x l a k z)).symm
   clear q Y;go_wp2;go_ret;exact⟨b,by rw[<-s.out];rfl,by rw[<-s.out];exact L,E,A⟩
def xF(side:Nat)(ms:List Bool)(ones others:List Nat):Bool:=ones.all (fun i=>others.all (fun j=>eD side ms i j))
theorem M8{side:Nat}{ms:List Bool}(b:w<z7.length)(a:f<zb.length)(h:eD side ms z7[w] zb[f]=false):xF side ms z7 zb=false:=by
 cases e:xF side ms z7 zb
 ·rfl
 ·unfold xF at e
  rw[Sk]at e;have:=e _ (Ra b);rw[Sk]at this;rw[this _ (Ra a)]at h;cases h
theorem Kv{b:List Bool}(h:∀i j (c:i<z7.length) (a:j<zb.length),eD T b z7[i] zb[j]=true):xF T b z7 zb=true:=by
 unfold xF;rw[Sk];intro x e;rw[Sk];intro y d;obtain⟨i,c,rfl⟩:=RZ e;obtain⟨j,a,rfl⟩:=RZ d;exact h i j c a
theorem zB(z:Hd)(b a:List Nat)(o:World)(hp:xC o y4 y7 y8 D I w)(h:kP o w x M y5 z5)(L:M.length=x.length*x.length)(U:x.length<=10000)(T:aw o i (bB b))(N:aw o z (bB a))(az:b.length<=1000000)(af:a.length<=1000000)(u:∀r∈b,r<x.length)(v:∀r∈a,r<x.length) :
  Calls prog 277 #[.pointer (some ⟨y4,0,none⟩),.slice i.ao b.length i.cap,.slice z.ao a.length z.cap] o fun e w'=>e=.returned (.bool (xF x.length M b a))/\∃m,w'=o.drewN m:=by
 go_enter func277,ntmps277;go_wp2
 go_loopg [7] b.length (fun gk c wr=>∃(k m:Nat),k<=b.length/\gk=b.length-k/\c=.int .i64 k/\Hid (∀c j (l:c<b.length) (B:j<a.length),c<k->eD x.length M b[c] a[j]=true)/\Hid (wr=o.drewN m))
 case atStart=>exact⟨0,0,by omega,by omega,rfl,fun c j l B h=>by omega,rfl⟩
 case round =>
  obtain⟨k,m,hk,hg,rfl,d,y⟩:=hrel
  by_cases q:k<b.length
  ·go_wp2_with fail
   go_loopg [8] a.length (fun P i2 F=>∃(j Q:Nat),j<=a.length/\P=a.length-j/\i2=.int .i64 j/\Hid (∀c (l:c<a.length),c<j->eD x.length M b[k] a[c]=true)/\Hid (F=o.drewN Q))
   case atStart=>exact⟨0,m,by omega,by omega,rfl,fun c l h=>by omega,y⟩
   case round =>
    obtain⟨j,Q,B,ad,rfl,g,f⟩:=hrel
    by_cases s:j<a.length
    ·have K:ab [] o wr:=by rw[f.out];exact(ab.refl [] _).drewN _
     have W:=h.Va K;obtain⟨p0,p1,p2⟩:=(hp.Va K).cells
     rcases T.ways with ⟨_,O,_⟩ | ⟨ga,ca,J,ax,S,an,-⟩
     ·have:b.length=0:=O
      omega
     rcases N.ways with ⟨_,O,_⟩ | ⟨gb,cb,R,a1,H,ar,-⟩
     ·have:a.length=0:=O
      omega
     have d1:wr.cell? ⟨ga,k,none⟩=some (.int .i64 b[k]):=(T.Vf (fun r G=>K.block r (T.lt G) (by simp))).cell J k (.int .i64 b[k]) (jP b k q);have d2:wr.cell? ⟨gb,j,none⟩=some (.int .i64 a[j]):=(N.Vf (fun r G=>K.block r (N.lt G) (by simp))).cell R j (.int .i64 a[j]) (jP a j s);have aS:b.length<=i.cap:=S;have aT:a.length<=z.cap:=H;have a2:(k:Int)<b.length:=by omega
     have ai:(j:Int)<a.length:=by omega
     have x1:=u _ (Ra q);have x2:=v _ (Ra s);have t:=hI (M8 (side:=x.length) (ms:=M) k j q s)
     have p:Hid (eD x.length M b[k] a[j]=true->∀c (l:c<a.length),c<j+1->eD x.length M b[k] a[c]=true):=by
      intro hh c l ag
      by_cases e:c=j
      ·subst e;exact hh
      ·exact g.out c l (by omega)
     have AP:=fun nq=>qe w x M y5 z5 b[k] a[j] (wr.drewN nq) (W.Va ((ab.refl [] _).drewN nq)) L U x1 x2
     obtain⟨al,ac⟩:=i;obtain⟨ap,Z⟩:=z;simp only at J R;subst J;subst R;clear g W p0 p1;generalize b[k]=X at *;generalize a[j]=Y at *;have n:=hI AP;clear AP
     cases E:eD x.length M X Y
     ·have A:=hI (t.out E)
      rw[E]at n;clear t p d
      go_upto_region 7 with fail
      go_quiet ((go_at_call 215;exact Rc (n.out _)))
      go_wp2;go_ret;exact⟨aD A.out.symm,_,by rw[f.out];exact Ue _ _ _⟩
     ·have A:=hI (p.out E)
      rw[E]at n;clear t p
      go_upto_region 7 with fail
      go_quiet ((go_at_call 215;exact Rc (n.out _)))
      go_wp2
      go_roundg (a.length-(j+1))
      case measure=>omega
      case rel=>exact⟨j+1,_,by omega,rfl,by go_num,A.out,by show _=_;rw[f.out];exact Ue _ _ _⟩
    ·have HN:Hid (∀c j (l:c<b.length) (B:j<a.length),c<k+1->eD x.length M b[c] a[j]=true):=by
      intro c V l C a0
      by_cases e:c=k
      ·subst e;exact g.out V C (by omega)
      ·exact d.out c V l C (by omega)
     clear g d;go_wp2
     go_roundg (b.length-(k+1))
     case measure=>omega
     case rel=>exact⟨k+1,Q,by omega,rfl,by go_num,HN,f⟩
  ·have A:Hid (xF x.length M b a=true):=Kv (fun c j l B=>d.out c j l B (by omega))
   clear d;go_wp2;go_ret;exact⟨aD A.out.symm,m,y.out⟩
structure iA(w:World)(g N:Nat)(F:Nat->List Nat)(K:Nat->Hd):Prop where
 arr:∃arr,w.heap[g]?=some (.cells arr 26 (0,0))/\arr.size=N/\∀n,n<N->arr[n]?=some (.slice (K n).ao (F n).length (K n).cap)
 own:∀n,n<N->aw w (K n) (bB (F n))
 off:∀n,n<N->(K n).blk≠some g
theorem iA.Va(h:iA S T a z4 d)(q:ab [] S o):iA o T a z4 d:=by
 obtain⟨b,i,e,g⟩:=h.arr;exact⟨⟨b,q.get i (by simp),e,g⟩,fun n c=>(h.own n c).Vf (fun x f=>q.block x ((h.own n c).lt f) (by simp)),h.off⟩
theorem iA.cell(h:iA S T a z4 d)(n:Nat)(c:n<a):S.cell? ⟨T,n,none⟩=some (.slice (d n).ao (z4 n).length (d n).cap):=by
 obtain⟨b,f,g,e⟩:=h.arr;rw[aa f];exact e n c
theorem iA.free(h:iA S T a z4 d)(n:Nat):S.frozen? ⟨T,n,none⟩=false:=by
 obtain⟨b,c,e,f⟩:=h.arr;exact am c n
theorem iA.lt(h:iA S T a z4 d):T<S.heap.size:=by
 obtain⟨b,c,f,e⟩:=h.arr;exact ae c
def Fw(F:Nat->List Nat)(k:Nat)(v:List Nat):Nat->List Nat:=fun n=>if n=k then v else F n
theorem iA.store{k:Nat}(h:iA S T a z4 d)(v:List Nat)(e:Hd)(o:aw S e (bB v))(i:e.blk≠some T) :
  iA (S.setCell ⟨T,k,none⟩ (.slice e.ao v.length e.cap)) T a (Fw z4 k v) (g9 d k e):=by
 obtain⟨l,m,g,j⟩:=h.arr;refine⟨⟨_,ah m _ _,by simpa using g,?_⟩,?_,?_⟩
 ·intro n c
  by_cases b:n=k
  ·subst b
   rw[dh];simp[g,c,Fw]
  ·rw[bU _ _ _ _ b]
   rw[Uj (by omega)];simp only[Fw,QS b];exact j n c
 ·intro n c
  by_cases b:n=k
  ·subst b
   rw[dh];simp only[Fw,QV];exact o.Vf (fun x f=>Q3 _ _ _ _ (by rintro rfl;exact i f))
  ·rw[bU _ _ _ _ b]
   simp only[Fw,QS b];exact(h.own n c).Vf (fun x f=>Q3 _ _ _ _ (by rintro rfl;exact h.off n c f))
 ·intro n c
  by_cases b:n=k
  ·subst b;rw[dh];exact i
  ·rw[bU _ _ _ _ b];exact h.off n c
end Go.Proofs.YtpddjjabfbfifaaGreat
