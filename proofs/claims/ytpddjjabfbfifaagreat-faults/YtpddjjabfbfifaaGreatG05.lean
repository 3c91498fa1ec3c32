import Derived.BigQuiet
import Derived.Maps.AppendAt
import Derived.Test.YtpddjjabfbfifaaGreatG04
namespace Go.Proofs.YtpddjjabfbfifaaGreat
open Go.RowKit Tryz
set_option maxHeartbeats 0
variable{T z4:World}{n o z7 zb y6 yg:Nat}{y5:Hd}{L ya:List ByteArray}{y yt:Nat->Hd}{yu yv:List Nat}{v0:List Bool}{y7:Nat->List Nat}{xz:List St}(yd M:World)(i N g a x b:Nat)(w:List St)(v:Nat->Hd)(k:List ByteArray)(zt:List Bool)(ys y8 z6:Hd)(yr:List Nat)(z5:List (List ByteArray))(D S:List ByteArray)(I:List Nat)(d:Nat)(f:World)(yy:St)(l:Nat)(H:List ByteArray)
def Ec(f:pA):Array Value:=#[.int .i64 f.1,.string f.2.file,.int .i64 f.2.line,.int .i64 f.2.col]
theorem jh{f:pA}(h:T.heap[n]?=some (.cells (Ec f) 165 (0,0))) :
  T.cell? ⟨n,0,none⟩=some (.int .i64 f.1)/\T.cell? ⟨n,1,none⟩=some (.string f.2.file)/\T.cell? ⟨n,2,none⟩=some (.int .i64 f.2.line)/\T.cell? ⟨n,3,none⟩=some (.int .i64 f.2.col):=by
 refine⟨?_,?_,?_,?_⟩ <;> (rw[aa h];rfl)
theorem Bp(c:w.length<=10000)(e:yy.Vh.length<=10000):gu ⟨(dD w d yy.fin 1 (yy.Vh.drop 1) (aK w d)).2,[],[],0,false⟩ 20000:=by
 have a:=(yj w d yy.fin (yy.Vh.drop 1) 1 (aK w d)).2;have b:(aK w d).length<=w.length:=oy w d w.length;simp only[List.length_drop]at a;exact⟨by simp only;omega,by simp,by simp,by simp,by simp⟩
set_option maxRecDepth 100000
theorem rJ(hr:dF f a x w v)(ha:b<w.length)(ok:iH w)(b5:yc w[b]) :
  Calls prog 138 #[.pointer (some ⟨a,x,none⟩),.int .i64 b] f fun e w'=>∃hd:Hd,
   e=.returned (.tuple #[.slice hd.ao (lK w b w[b]).1.length hd.cap,gU (lK w b w[b]).2])/\aw w' hd (go (lK w b w[b]).1)/\(∀c,hd.blk=some c->f.heap.size<=c)/\ab [] f w':=by
 have co:=hr.lt;have bT:=ok.len;have cc:=ok.prfs b ha;have cu:(aK w b).length<=w.length:=oy w b w.length;obtain⟨AO,bg⟩:∃AO,Hid ((v (11+2*b)).ao=AO):=⟨_,rfl⟩
 obtain⟨W,hW⟩:∃W,W=f.alloc (.cells #[.int .i64 0,.string ⟨#[]⟩,.int .i64 0,.int .i64 0] 165):=⟨_,rfl⟩
 have K:ab [] f W:=by rw[hW];exact(ab.refl [] _).alloc _
 have BF:W.heap[f.heap.size]?=some (.cells bA 165 (0,0)):=by rw[hW];exact QS _ _
 have HW:Hid _:=hW.symm;clear hW;go_enter func138,ntmps138
 go_upto_region 1 with fail
 rw[HW.out];go_wp2_with fail;refine(a9 a x b w v _ (hr.Vb K) ha).mono ?_;rintro e s ⟨rfl,S⟩;unfold ee;rw[bg.out];obtain⟨TB,an⟩:∃TB:Array Value,TB=#[.int .i64 w[b].kind,.string w[b].label,.slice (v (10+2*b)).ao w[b].U6.length (v (10+2*b)).cap,.slice AO w[b].Vh.length (v (11+2*b)).cap,.string w[b].fin.file,.int .i64 w[b].fin.line,.int .i64 w[b].fin.col,.int .i64 w[b].til]:=⟨_,rfl⟩
 obtain⟨W2,E⟩:∃W2,W2=s.alloc (.cells #[.int .i64 w[b].kind,.string w[b].label,.slice (v (10+2*b)).ao w[b].U6.length (v (10+2*b)).cap,.slice AO w[b].Vh.length (v (11+2*b)).cap,.string w[b].fin.file,.int .i64 w[b].fin.line,.int .i64 w[b].fin.col,.int .i64 w[b].til] 158):=⟨_,rfl⟩
 have bo:Hid _:=E.symm;have K2:ab [] f W2:=by rw[E];exact(K.trans S).alloc _
 have BT:W2.heap[s.heap.size]?=some (.cells TB 158 (0,0)):=by rw[E,an];exact QS _ _
 have a7:W2.heap[f.heap.size]?=some (.cells bA 165 (0,0)):=by rw[E];exact((ab.refl [] _).alloc _).get (S.get BF (by simp)) (by simp)
 have cx:f.heap.size<s.heap.size:=by have:=ae (S.get BF (by simp));omega
 have cz:=ae BT;have y:Hid _:=an;clear E an
 go_upto_region 2 with fail
 rw[bo.out];clear HW bo S BF K;have ax:=K2.size;have b0:=hr.Vb K2;go_wp2_with fail;refine(mA a x b w v _ b0 ha ok).mono ?_;rintro e H ⟨q,rfl,bx,bw,F⟩
 have CM:dL (H.alloc (.cells #[.slice q.ao (aK w b).length q.cap,.slice none 0 0,.slice none 0 0,.int .i64 0,.bool false] 279)) H.heap.size ⟨aK w b,[],[],0,false⟩ (xL q):=Nf (cs:=lF ⟨aK w b,[],[],0,false⟩ (xL q)) (rows:=wW ⟨aK w b,[],[],0,false⟩) bx (by
  intro i
  match i with
  | 0=>exact QZ _ _ _ _
  | 1=>exact QZ _ _ _ _
  | m+2=>exact QZ _ _ _ _)
 have K4:ab [] f (H.alloc (.cells #[.slice q.ao (aK w b).length q.cap,.slice none 0 0,.slice none 0 0,.int .i64 0,.bool false] 279)):=(K2.trans F).alloc _;have af:(H.alloc (.cells #[.slice q.ao (aK w b).length q.cap,.slice none 0 0,.slice none 0 0,.int .i64 0,.bool false] 279)).heap[s.heap.size]?=some (.cells TB 158 (0,0)):=((ab.refl [] _).alloc _).get (F.get BT (by simp)) (by simp);have ad:(H.alloc (.cells #[.slice q.ao (aK w b).length q.cap,.slice none 0 0,.slice none 0 0,.int .i64 0,.bool false] 279)).heap[f.heap.size]?=some (.cells bA 165 (0,0)):=((ab.refl [] _).alloc _).get (F.get a7 (by simp)) (by simp);have cA:W2.heap.size<=H.heap.size:=F.size;have n:∀c,f9 (xL q) c->W2.heap.size<=c:=fun c d=>bw c (NP d)
 obtain⟨W4,ap⟩:∃W4,W4=H.alloc (.cells #[.slice q.ao (aK w b).length q.cap,.slice none 0 0,.slice none 0 0,.int .i64 0,.bool false] 279):=⟨_,rfl⟩
 rw[<-ap]at CM K4 af ad;have br:Hid _:=ap.symm;clear ap bx bw F BT a7
 go_upto_region 3 with fail
 rw[br.out];clear br;have b4:=Bp w b w[b] bT cc;have bv:=(yj w b w[b].fin (w[b].Vh.drop 1) 1 (aK w b)).1;have O:=xS H.heap.size ⟨aK w b,[],[],0,false⟩ (xL q) a x b w v f W4 CM hr K4 ha ok (by simp only;omega) (by omega) (fun c d=>Q3 ax (n c d));have bj:Hid (Gb w b w[b]=Gz (dD w b w[b].fin 1 (w[b].Vh.drop 1) (aK w b)).1.2 (w[b].Vh.drop (dD w b w[b].fin 1 (w[b].Vh.drop 1) (aK w b)).1.1) ⟨(dD w b w[b].fin 1 (w[b].Vh.drop 1) (aK w b)).2,[],[],0,false⟩):=rfl;simp only at O;have cl:=a8.lt CM;simp only[List.length_drop]at bv;generalize dD w b w[b].fin 1 (w[b].Vh.drop 1) (aK w b)=BL at *;obtain⟨⟨nx,bf,bp⟩,ns⟩:=BL;simp only at O bj b4 bv;go_wp2_with fail;refine O.mono ?_;rintro e h ⟨rfl,H5,D5,V⟩;unfold gU
 have K5:=K4.ofP V.1 (fun c d=>by
  rcases d with e | e
  ·omega
  ·exact Q3 ax (n c e))
 have n1:¬f9 H5 f.heap.size:=V.fresh _ (by omega) (fun hm=>by have:=n _ hm;omega);have n2:¬f9 H5 s.heap.size:=V.fresh _ (by omega) (fun hm=>by have:=n _ hm;omega)
 have nb:∀c,f9 H5 c->f.heap.size<=c:=fun c d=>by
  rcases V.2 c d with e | e
  ·exact Q3 ax (n c e)
  ·omega
 have bd:=V.1.get af (by rintro (e | e);omega;have:=n _ e;omega);have ba:=V.1.get ad (by rintro (e | e);omega;have:=n _ e;omega);have n3:¬f9 H5 h.heap.size:=fun hm=>by have:=a8.inlt D5 hm;omega
 have cy:=V.1.size;obtain⟨W6,P⟩:∃W6,W6=h.alloc (.cells #[.int .i64 bf,.string bp.file,.int .i64 bp.line,.int .i64 bp.col] 165):=⟨_,rfl⟩
 have k6:ab [] h W6:=by rw[P];exact(ab.refl [] _).alloc _
 have a6:W6.heap[h.heap.size]?=some (.cells (Ec (bf,bp)) 165 (0,0)):=by rw[P];exact QS _ _
 have C6:=dL.Vb D5 k6;have be:=k6.get bd (by simp);have bc:=k6.get ba (by simp);have K6:=K5.trans k6;have bs:Hid _:=P.symm;clear P
 go_upto_region 4 with fail
 rw[bs.out];clear bs af ad bd ba D5 V O CM K4 K5 b0 k6;go_wp2
 go_loopg [10] (w[b].Vh.length-nx) (fun gk iv wr=>∃(i:Nat) (l:mg) (u:Nat->Hd) (k:pA) (N:Nat),i<=10001/\gk=w[b].Vh.length-i/\iv=.int .i64 i/\gu l N/\N+kt (w[b].Vh.drop i)<=1020000/\Hid (Gb w b w[b]=Gz k (w[b].Vh.drop i) l)/\dL wr H.heap.size l u/\(∀c,f9 u c->f.heap.size<=c)/\ab [] f wr /\
  wr.heap[f.heap.size]?=some (.cells bA 165 (0,0))/\wr.heap[s.heap.size]?=some (.cells TB 158 (0,0))/\wr.heap[h.heap.size]?=some (.cells (Ec k) 165 (0,0))/\¬f9 u f.heap.size/\¬f9 u s.heap.size/\¬f9 u h.heap.size)
 case atStart=>exact⟨nx,_,H5,(bf,bp),20000,by omega,by omega,rfl,b4,by have:=C2 w[b].Vh nx;have:=b5.size;omega,bj,C6,nb,K6,bc,be,a6,n1,n2,n3⟩
 case round =>
  obtain⟨i,l,u,k,N,hi,hg,rfl,ac,hN,Y,hC,ar,KW,B1,U,B9,n1,n2,n3⟩:=hrel;clear C6 nb K6 bc be a6;have cf:=hr.Vb KW;have b1:=ae B1;have b2:=ae U;have b3:=ae B9;have z:=cf.Vn.prfs b w[b] (QP ha);obtain⟨f0,f1,f2,f3⟩:=jh B9;have yf:=am B9;obtain⟨I,J,L,M⟩:=da B1;have yz:=am B1;have cq:((i:Int) ≥ 0):=by omega
  obtain⟨az,aS,aT,a4,a5⟩:=hC.cells;have cp:=a8.lt hC
  by_cases G:i<w[b].Vh.length
  ·cases g:(k.1==0)
   ·have t3:wr.cell? ⟨s.heap.size,3,none⟩=some (.slice AO w[b].Vh.length (v (11+2*b)).cap):=by rw[aa U,y.out];rfl
    have o:Hid (lK w b w[b]=([],k)):=by show _=_;unfold lK;rw[Y.out,GA _ _ _ g];simp[uF,g]
    have p:(k.1 != 0)=true:=by simp[bne,g]
    clear Y z
    go_upto_region 13 with fail
    go_region
    all_goals go_wp2
    all_goals exact QY (v:=.tuple #[.slice none 0 0,.agg #[.int .i64 k.1,.string k.2.file,.int .i64 k.2.line,.int .i64 k.2.col]]) (by simp[results,results138,go_sem,I,J,L,M]) rfl ⟨⟨none,0⟩,by rw[o.out];rfl,by rw[o.out];exact QZ _ _ _ _,by intro c d;simp[Hd.blk]at d,(kH KW (QR _) _ _ _ _).drew⟩
   ·obtain⟨gp,ep,ck,ca,d0,d1,d2,d3⟩:=z.word i G
    obtain rfl:AO=some ⟨gp,0,none⟩:=bg.out.symm.trans ep;have t3:wr.cell? ⟨s.heap.size,3,none⟩=some (.slice (some ⟨gp,0,none⟩) w[b].Vh.length (v (11+2*b)).cap):=by rw[aa U,y.out];rfl
    have ct:gp<wr.heap.size:=z.lt (by unfold Hd.blk;rw[ep];rfl);clear ep z;have Z:=b5.col w[b].Vh[i] (Rb G);have ch:=Fd w[b].Vh i G;have ai:Hid _:=Y.out.trans (Pm k w[b].Vh l i G g);have al:=zr w[b].Vh[i].1 w[b].Vh[i].2 ac;have TW:=AD H.heap.size l u w[b].Vh[i].1 w[b].Vh[i].2.file w[b].Vh[i].2.line w[b].Vh[i].2.col wr hC N ac (by omega) Z;clear Y;generalize w[b].Vh[i]=wd at *;obtain⟨t,pf,pl,pc⟩:=wd;simp only at d0 d1 d2 d3 ai al TW Z ch;generalize mT t ⟨pf,pl,pc⟩ l=Q at *;obtain⟨⟨qf,qp⟩,c2⟩:=Q;simp only at ai al TW;unfold gU at TW;clear I J L M yz az aS aT a4 a5;go_wp2_with fail;refine TW.mono ?_;rintro e w7 ⟨rfl,H7,D7,X⟩
    have bz:∀c,(c=H.heap.size∨f9 u c)->f.heap.size<=c:=by
     rintro c (e | e)
     ·omega
     ·exact ar c e
    have K7:=KW.ofP X.1 bz;have q1:=X.1.get B1 (by rintro (e | e);omega;exact n1 e);have q2:=X.1.get U (by rintro (e | e);omega;exact n2 e);have q9:=X.1.get B9 (by rintro (e | e);omega;exact n3 e);have m1:=X.fresh f.heap.size b1 n1;have m2:=X.fresh s.heap.size b2 n2;have m3:=X.fresh h.heap.size b3 n3;have y9:=am q9
    have m4:∀c,f9 H7 c->f.heap.size<=c:=fun c d=>by
     rcases X.2 c d with e | e
     ·exact ar c e
     ·omega
    have kk:=fun a0 a1 a2 a3=>ji (w:=w7) (r:=h.heap.size) a0 a1 a2 a3
    have ag:Hid _:=kk
    have b6:Hid (∀a0 a1 a2 a3,((((w7.setCell ⟨h.heap.size,0,none⟩ a0).setCell ⟨h.heap.size,1,none⟩ a1).setCell ⟨h.heap.size,2,none⟩ a2).setCell ⟨h.heap.size,3,none⟩ a3).heap[h.heap.size]?=some (.cells #[a0,a1,a2,a3] 165 (0,0))):=by
     intro a0 a1 a2 a3;rw[ah (ah (ah (ah q9 _ _) _ _) _ _)];rfl
    clear kk bz d0 d1 d2 d3 t3 f0 f1 f2 f3 yf;obtain⟨g0,g1,g2,g3⟩:=jh q9;go_wp2
    go_roundg (w[b].Vh.length-(i+1))
    case measure=>omega
    case rel=>exact⟨i+1,c2,H7,(qf,qp),N+t.size,by omega,rfl,by go_num,al,by omega,ai.out,a8.kept D7 (ag.out _ _ _ _) (by simp;omega) (by intro c d;simp;rintro rfl;exact m3 d),m4,kH K7 (by omega) _ _ _ _,(ag.out _ _ _ _).get q1 (by simp;omega),(ag.out _ _ _ _).get q2 (by simp;omega),b6.out _ _ _ _,m1,m2,m3⟩
  ·have t3:wr.cell? ⟨s.heap.size,3,none⟩=some (.slice AO w[b].Vh.length (v (11+2*b)).cap):=by rw[aa U,y.out];rfl
   cases g:(k.1==0)
   ·have o:Hid (lK w b w[b]=([],k)):=by show _=_;unfold lK;rw[Y.out,GA _ _ _ g];simp[uF,g]
    have p:(k.1 != 0)=true:=by simp[bne,g]
    clear Y z
    go_upto_region 13 with fail
    go_region
    all_goals go_wp2
    all_goals exact QY (v:=.tuple #[.slice none 0 0,.agg #[.int .i64 k.1,.string k.2.file,.int .i64 k.2.line,.int .i64 k.2.col]]) (by simp[results,results138,go_sem,I,J,L,M]) rfl ⟨⟨none,0⟩,by rw[o.out];rfl,by rw[o.out];exact QZ _ _ _ _,by intro c d;simp[Hd.blk]at d,(kH KW (QR _) _ _ _ _).drew⟩
   ·have t4:wr.cell? ⟨s.heap.size,4,none⟩=some (.string w[b].fin.file):=by rw[aa U,y.out];rfl
    have t5:wr.cell? ⟨s.heap.size,5,none⟩=some (.int .i64 w[b].fin.line):=by rw[aa U,y.out];rfl
    have t6:wr.cell? ⟨s.heap.size,6,none⟩=some (.int .i64 w[b].fin.col):=by rw[aa U,y.out];rfl
    have HE:Hid (lK w b w[b]=uF w[b].fin (cY,l)):=by show _=_;unfold lK;rw[Y.out,NQ _ _ _ _ G g]
    have p:(k.1 != 0)=false:=by simp[bne,g]
    clear Y z
    by_cases R:l.Vd=0
    ·have cb:¬((l.Vd:Int) > 0):=by omega
     by_cases T:l.steps.length=0
     ·have cj:((l.steps.length:Int)==0)=true:=by simp[T]
      have o:Hid (lK w b w[b]=([],(1,w[b].fin))):=by show _=_;rw[HE.out];simp[uF,cY,R,T]
      obtain⟨D,j⟩:∃D,D=(((wr.setCell ⟨h.heap.size,0,none⟩ (.int .i64 1)).setCell ⟨h.heap.size,1,none⟩ (.string w[b].fin.file)).setCell ⟨h.heap.size,2,none⟩ (.int .i64 w[b].fin.line)).setCell ⟨h.heap.size,3,none⟩ (.int .i64 w[b].fin.col):=⟨_,rfl⟩
      have k8:ab [h.heap.size] wr D:=by rw[j];exact ji _ _ _ _
      have K8:ab [] f D:=by rw[j];exact kH KW (by omega) _ _ _ _
      have B:D.heap[h.heap.size]?=some (.cells (Ec (1,w[b].fin)) 165 (0,0)):=by
       rw[j,ah (ah (ah (ah B9 _ _) _ _) _ _)];rfl
      have A:=k8.get B1 (by simp;omega);have C8:=a8.kept hC k8 (by simp;omega) (by intro c d;simp;rintro rfl;exact n3 d);have C:Hid _:=j.symm;clear j k8
      go_upto_region 12 with fail
      rw[C.out];clear C f0 f1 f2 f3 yf I J L M yz az aS aT a4 a5 t3 t4 t5 t6 g p;obtain⟨f0,f1,f2,f3⟩:=jh B;have yf:=am B;obtain⟨I,J,L,M⟩:=da A;have yz:=am A
      go_upto_region 13 with fail
      go_region
      all_goals go_wp2
      all_goals exact QY (v:=.tuple #[.slice none 0 0,.agg #[.int .i64 1,.string w[b].fin.file,.int .i64 w[b].fin.line,.int .i64 w[b].fin.col]]) (by simp[results,results138,go_sem,I,J,L,M]) rfl ⟨⟨none,0⟩,by rw[o.out];rfl,by rw[o.out];exact QZ _ _ _ _,by intro c d;simp[Hd.blk]at d,(kH K8 (QR _) _ _ _ _).drew⟩
     ·have cj:((l.steps.length:Int)==0)=false:=Rh.2 (by omega)
      have o:Hid (lK w b w[b]=(l.steps,cY)):=by show _=_;rw[HE.out];simp[uF,cY,R,T]
      have bl:Hid (aw wr (u 2) (go l.steps)):=a8.own hC 2;have bk:Hid (∀c,(u 2).blk=some c->f.heap.size<=c/\c≠f.heap.size):=fun c d=>⟨ar c ⟨2,d⟩,fun e=>n1 ⟨2,e ▸ d⟩⟩
      clear T R;go_wp2
      exact QY (v:=.tuple #[.slice (u 2).ao l.steps.length (u 2).cap,.agg #[.int .i64 0,.string ⟨#[]⟩,.int .i64 0,.int .i64 0]]) (by simp[results,results138,go_sem,I,J,L,M]) rfl
       ⟨u 2,by rw[o.out];rfl,by rw[o.out];exact bl.out.Vg (fun c d=>(ji (r:=f.heap.size) _ _ _ _).block c (bl.out.lt d) (by simp;exact(bk.out c d).2)),fun c d=>(bk.out c d).1,kH KW (QR _) _ _ _ _⟩
    ·have cb:(l.Vd:Int) > 0:=by omega
     have o:Hid (lK w b w[b]=([],(4,w[b].fin))):=by show _=_;rw[HE.out];simp[uF,cY,R]
     obtain⟨D,j⟩:∃D,D=(((wr.setCell ⟨h.heap.size,0,none⟩ (.int .i64 4)).setCell ⟨h.heap.size,1,none⟩ (.string w[b].fin.file)).setCell ⟨h.heap.size,2,none⟩ (.int .i64 w[b].fin.line)).setCell ⟨h.heap.size,3,none⟩ (.int .i64 w[b].fin.col):=⟨_,rfl⟩
     have k8:ab [h.heap.size] wr D:=by rw[j];exact ji _ _ _ _
     have K8:ab [] f D:=by rw[j];exact kH KW (by omega) _ _ _ _
     have B:D.heap[h.heap.size]?=some (.cells (Ec (4,w[b].fin)) 165 (0,0)):=by
      rw[j,ah (ah (ah (ah B9 _ _) _ _) _ _)];rfl
     have A:=k8.get B1 (by simp;omega);have C8:=a8.kept hC k8 (by simp;omega) (by intro c d;simp;rintro rfl;exact n3 d);have C:Hid _:=j.symm;clear j k8
     go_upto_region 10 with fail
     rw[C.out];clear C f0 f1 f2 f3 yf I J L M yz az aS aT a4 a5 t3 t4 t5 t6 g p;obtain⟨f0,f1,f2,f3⟩:=jh B;have yf:=am B;obtain⟨I,J,L,M⟩:=da A;have yz:=am A
     go_upto_region 13 with fail
     go_region
     all_goals go_wp2
     all_goals exact QY (v:=.tuple #[.slice none 0 0,.agg #[.int .i64 4,.string w[b].fin.file,.int .i64 w[b].fin.line,.int .i64 w[b].fin.col]]) (by simp[results,results138,go_sem,I,J,L,M]) rfl ⟨⟨none,0⟩,by rw[o.out];rfl,by rw[o.out];exact QZ _ _ _ _,by intro c d;simp[Hd.blk]at d,(kH K8 (QR _) _ _ _ _).drew⟩
def Aa(s:St):Bool :=
 match s.Vh with
 | []=>false
 | (t,_) :: _=>t.toList == [40]
def lx(l:List St)(a:Nat)(s:St):List nF×pA:=if Aa s=true then lK l a s else fL l a s.fin s.Vh []
theorem Jb(hr:dF f a x w v)(E:b<w.length)(N:iH w)(ad:yc w[b]) :
  Calls prog 100 #[.pointer (some ⟨a,x,none⟩),.int .i64 b] f fun e w'=>∃c:Hd,
   e=.returned (.tuple #[.slice c.ao (lx w b w[b]).1.length c.cap,gU (lx w b w[b]).2])/\aw w' c (go (lx w b w[b]).1)/\(∀h,c.blk=some h->f.heap.size<=h)/\ab [] f w':=by
 have an:=hr.lt;have ax:=N.prfs b E;obtain⟨D,F⟩:∃D,Hid ((v (11+2*b)).ao=D):=⟨_,rfl⟩
 obtain⟨W,M⟩:∃W,W=f.alloc (.cells #[.int .i64 0,.string ⟨#[]⟩,.int .i64 0,.int .i64 0] 165):=⟨_,rfl⟩
 have K:ab [] f W:=by rw[M];exact(ab.refl [] _).alloc _
 have R:W.heap[f.heap.size]?=some (.cells bA 165 (0,0)):=by rw[M];exact QS _ _
 have HW:Hid _:=M.symm;clear M;go_enter func100,ntmps100
 go_upto_region 1 with fail
 rw[HW.out];go_wp2_with fail;refine(a9 a x b w v _ (hr.Vb K) E).mono ?_;rintro e P ⟨rfl,m⟩;unfold ee;rw[F.out];obtain⟨l,k⟩:∃l,l=P.alloc (.cells #[.int .i64 w[b].kind,.string w[b].label,.slice (v (10+2*b)).ao w[b].U6.length (v (10+2*b)).cap,.slice D w[b].Vh.length (v (11+2*b)).cap,.string w[b].fin.file,.int .i64 w[b].fin.line,.int .i64 w[b].fin.col,.int .i64 w[b].til] 158):=⟨_,rfl⟩
 have G:Hid _:=k.symm;have T:ab [] f l:=by rw[k];exact(K.trans m).alloc _
 have BT:l.heap[P.heap.size]?=some (.cells #[.int .i64 w[b].kind,.string w[b].label,.slice (v (10+2*b)).ao w[b].U6.length (v (10+2*b)).cap,.slice D w[b].Vh.length (v (11+2*b)).cap,.string w[b].fin.file,.int .i64 w[b].fin.line,.int .i64 w[b].fin.col,.int .i64 w[b].til] 158 (0,0)):=by rw[k];exact QS _ _
 have S:l.heap[f.heap.size]?=some (.cells bA 165 (0,0)):=by rw[k];exact((ab.refl [] _).alloc _).get (m.get R (by simp)) (by simp)
 have az:f.heap.size<P.heap.size:=by have:=ae (m.get R (by simp));omega
 have aS:=ae BT;clear k
 go_upto_region 2 with fail
 rw[G.out];clear HW G m R K;have t3:l.cell? ⟨P.heap.size,3,none⟩=some (.slice D w[b].Vh.length (v (11+2*b)).cap):=by rw[aa BT];rfl
 have n:=hr.Vb T;have j:=n.Vn.prfs b w[b] (QP E)
 have g:Hid (∀(d:World) (fl:pA) (c:Hd) (O:List nF),ab [] l d->(∀h,c.blk=some h->l.heap.size<=h)->aw d c (go O)->lx w b w[b]=(O,fl) ->
   d.frozen? ⟨f.heap.size,0,none⟩=false/\d.frozen? ⟨f.heap.size,1,none⟩=false/\d.frozen? ⟨f.heap.size,2,none⟩=false/\d.frozen? ⟨f.heap.size,3,none⟩=false /\
   d.cell? ⟨f.heap.size,0,none⟩=some (.int .i64 0)/\d.cell? ⟨f.heap.size,1,none⟩=some (.string ⟨#[]⟩)/\d.cell? ⟨f.heap.size,2,none⟩=some (.int .i64 0)/\d.cell? ⟨f.heap.size,3,none⟩=some (.int .i64 0) /\
   ∀U V X Y,Hid (ab [] f ((((d.setCell ⟨f.heap.size,0,none⟩ U).setCell ⟨f.heap.size,1,none⟩ V).setCell ⟨f.heap.size,2,none⟩ X).setCell ⟨f.heap.size,3,none⟩ Y)/\aw ((((d.setCell ⟨f.heap.size,0,none⟩ U).setCell ⟨f.heap.size,1,none⟩ V).setCell ⟨f.heap.size,2,none⟩ X).setCell ⟨f.heap.size,3,none⟩ Y) c (go O))):=by
  intro d fl c O s ac I he;have B9:=s.get S (by simp);obtain⟨z,A,B,C⟩:=da B9;have Q:=am B9;refine⟨Q 0,Q 1,Q 2,Q 3,z,A,B,C,fun U V X Y=>⟨kH (T.trans s) (QR _) _ _ _ _,I.Vg (fun h q=>(ji (r:=f.heap.size) _ _ _ _).block h (I.lt q) (by simp;rintro rfl;have:=ac _ q;omega))⟩⟩
 have y:=T.size
 rcases hpr:w[b].Vh with _ | ⟨⟨t,p⟩,r⟩
 ·have H:w[b].Vh.length=0:=by rw[hpr];rfl
  have i:Hid (lx w b w[b]=fL w b w[b].fin w[b].Vh []):=by show _=_;simp[lx,Aa,hpr]
  rw[H]at t3;have al:¬((0:Nat):Int) > 0:=by omega
  clear hpr j;go_wp2_with (go_at_call 139;refine(pS a x b w v _ n E N).mono ?_;rintro e d ⟨c,rfl,J,u,s⟩;obtain⟨y0,y1,y2,y3,z,A,B,C,o⟩:=g.out d _ c _ s u J i.out;unfold gU)
  exact QY (v:=.tuple #[.slice c.ao (fL w b w[b].fin w[b].Vh []).1.length c.cap,gU (fL w b w[b].fin w[b].Vh []).2]) (by simp[results,results100,go_sem,z,A,B,C,gU]) rfl
   ⟨c,by rw[i.out],by rw[i.out];exact(o _ _ _ _).out.2,fun h q=>Q3 y (u h q),(o _ _ _ _).out.1⟩
 ·have H:w[b].Vh.length=r.length+1:=by rw[hpr];rfl
  obtain⟨gp,L,af,Z,d0,-,-,-⟩:=j.word 0 (by omega);obtain rfl:D=some ⟨gp,0,none⟩:=F.out.symm.trans L;have ap:gp<l.heap.size:=j.lt (by unfold Hd.blk;rw[L];rfl);have ar:((w[b].Vh.length:Int) > 0):=by omega
  have ag:(0:Int)<w[b].Vh.length:=by omega
  have ai:0<w[b].Vh.length:=by omega
  simp only[hpr,List.getElem_cons_zero]at d0
  cases hc:(t.toList == [40])
  ·have i:Hid (lx w b w[b]=fL w b w[b].fin w[b].Vh []):=by show _=_;simp[lx,Aa,hpr,hc]
   clear hpr j L;go_wp2_with (go_at_call 139;refine(pS a x b w v _ n E N).mono ?_;rintro e d ⟨c,rfl,J,u,s⟩;obtain⟨y0,y1,y2,y3,z,A,B,C,o⟩:=g.out d _ c _ s u J i.out;unfold gU)
   exact QY (v:=.tuple #[.slice c.ao (fL w b w[b].fin w[b].Vh []).1.length c.cap,gU (fL w b w[b].fin w[b].Vh []).2]) (by simp[results,results100,go_sem,z,A,B,C,gU]) rfl
    ⟨c,by rw[i.out],by rw[i.out];exact(o _ _ _ _).out.2,fun h q=>Q3 y (u h q),(o _ _ _ _).out.1⟩
  ·have i:Hid (lx w b w[b]=lK w b w[b]):=by show _=_;simp[lx,Aa,hpr,hc]
   clear hpr j L;go_wp2_with (go_at_call 138;refine(rJ a x b w v _ n E N ad).mono ?_;rintro e d ⟨c,rfl,J,u,s⟩;obtain⟨y0,y1,y2,y3,z,A,B,C,o⟩:=g.out d _ c _ s u J i.out;unfold gU)
   exact QY (v:=.tuple #[.slice c.ao (lK w b w[b]).1.length c.cap,gU (lK w b w[b]).2]) (by simp[results,results100,go_sem,z,A,B,C,gU]) rfl
    ⟨c,by rw[i.out],by rw[i.out];exact(o _ _ _ _).out.2,fun h q=>Q3 y (u h q),(o _ _ _ _).out.1⟩
theorem Lu:(prog.info? 61).map (fun i=>(i.zero,i.size,i.bytes))=some (some (.slice none 0 0),1,24):=by kernel_rfl
structure Ex where
 hd:Hd
 xs:List ByteArray
def v6(e:Ex):Value:=.slice e.hd.ao e.xs.length e.hd.cap
def By(l:List Ex):List Value:=l.map v6
def gn(l:List Ex):dN:=⟨61,1,l.length,By l⟩
theorem ug(l:List Ex)(e:Ex):(⟨(gn l).e,(gn l).size,(gn l).n+1,(gn l).xs++[v6 e]⟩:dN)=gn (l++[e]):=by simp[gn,By]
theorem sB(l:List Ex)(k:Nat)(h:k<l.length):(By l)[k]?=some (v6 l[k]):=by simp[By,h]
theorem jT.keptP{P:Nat->Prop}(v:jT T y5 L)(k:eK P T z4)(f:∀x,y5.blk=some x->¬P x):jT z4 y5 L:=by
 rcases v with v | ⟨g,b,a,t,c,d,e⟩
 ·exact Q1 v
 ·exact QV ⟨g,b,a,t,c,k.get d (f g (by unfold Hd.blk;rw[c];rfl)),e⟩
structure AW(w:World)(b:Nat)(H:Nat->Hd)(e:Ex):Prop where
 view:jT w e.hd e.xs
 adr:∃ad,e.hd.ao=some ad
 far:∀x,e.hd.blk=some x->x<w.heap.size/\x≠b/\¬f9 H x
theorem AW.turned{e:Ex}(h:AW T n y e)(t:aA n T y z4 yt):AW z4 n yt e:=by
 refine⟨h.view.keptP t.1 (fun x c=>?_),h.adr,fun x c=>?_⟩
 ·obtain⟨_,a,b⟩:=h.far x c
  rintro (e | e)
  ·exact a e
  ·exact b e
 ·obtain⟨d,a,b⟩:=h.far x c
  exact⟨QX d t.1.size,a,t.fresh x d b⟩
theorem AW.Vb{e:Ex}(h:AW T n y e)(k:ab [] T z4):AW z4 n y e :=
 ⟨h.view.Vb k,h.adr,fun x a=>⟨QX (h.far x a).1 k.size,(h.far x a).2⟩⟩
def pW(vs:List ByteArray)(be:List Ex):Nat->dN
 | 0=>aB vs
 | 1=>gn be
 | _+2=>aB []
def oU(vs:List ByteArray)(be:List Ex)(H:Nat->Hd):List Value:=[.slice (H 0).ao vs.length (H 0).cap,.slice (H 1).ao be.length (H 1).cap]
structure ma(w:World)(b:Nat)(vs:List ByteArray)(be:List Ex)(H:Nat->Hd):Prop where
 bag:a8 w b 343 (oU vs be H) (pW vs be) H
 len:be.length=vs.length
 exs:∀e∈be,AW w b H e
theorem ma.Vb{a:List Ex}(h:ma T n L a y)(k:ab [] T z4):ma z4 n L a y:=⟨h.bag.Vb k,h.len,fun e b=>(h.exs e b).Vb k⟩
theorem ma.cells{a:List Ex}(h:ma T n L a y) :
  T.cell? ⟨n,0,none⟩=some (.slice (y 0).ao L.length (y 0).cap)/\T.cell? ⟨n,1,none⟩=some (.slice (y 1).ao a.length (y 1).cap):=⟨h.bag.cell 0,h.bag.cell 1⟩
def Dv(a b:List ByteArray):Bool:=a.map (·.toList)==b.map (·.toList)
theorem Nm(h:L.length≠ya.length):Dv L ya=false:=by
 unfold Dv;rw[Rh];intro e;have:=congrArg List.length e;simp at this;exact h this
theorem OS(a:l<L.length)(b:l<ya.length)(h:(L[l].toList==ya[l].toList)=false):Dv L ya=false:=by
 unfold Dv;rw[Rh]at h ⊢;intro e;have:=congrArg (fun c=>c[l]?) e;simp[a,b]at this;exact h this
theorem Gf(c:L.length=ya.length)(h:∀k (a:k<L.length) (b:k<ya.length),(L[k].toList==ya[k].toList)=true):Dv L ya=true:=by
 unfold Dv;rw[Ty]
 apply UN
 ·simpa using c
 ·intro k a b
  simp at a b ⊢;exact Ty.1 (h k a b)
set_option maxRecDepth 512
theorem yo(W:jT f y8 D)(X:jT f z6 S)(R:D.length<=1073741824)(T:S.length<=1073741824) :
  Calls prog 211 #[.slice y8.ao D.length y8.cap,.slice z6.ao S.length z6.cap] f fun e Y=>e=.returned (.bool (Dv D S))/\ab [] f Y:=by
 obtain⟨G,w⟩:=y8;obtain⟨H,x⟩:=z6
 by_cases c:D.length=S.length
 ·have V:((D.length:Int) != S.length)=false:=by simp[c]
  by_cases E:D.length=0
  ·have b:Hid (Dv D S=true):=Gf c (fun k y8 z6=>by omega)
   have O:¬(0:Int)<D.length:=by omega
   go_enter func211,ntmps211;go_wp2;refine SZ 1 ?_;rw[Tr];go_wp2;go_ret;exact⟨aD b.out.symm,ab.refl _ _⟩
  ·rcases W with rfl | ⟨g,o,I,t,z,A,s,J,K⟩
   ·simp at E
   rcases X with rfl | ⟨N,h,y,t',B,C,u,L,M⟩
   ·simp at c;simp[c]at E
   simp only at z B J K L M;subst z;subst B;go_enter func211,ntmps211;go_wp2
   go_loopg [5] D.length (fun gk i wr=>∃k:Nat,k<=D.length/\gk=D.length-k/\i=.int .i64 k/\Hid (∀i (p:i<D.length) (q:i<S.length),i<k->(D[i].toList==S[i].toList)=true)/\ab [] f wr)
   case atStart=>exact⟨0,by omega,by omega,rfl,fun i _ _ Q=>by omega,ab.refl _ _⟩
   case round =>
    obtain⟨k,hk,hg,rfl,a,m⟩:=hrel
    by_cases n:k<D.length
    ·have d:k<S.length:=by omega
     have Z:wr.cell? ⟨g,o+k,none⟩=some (.string D[k]):=(aa (m.get A (by simp)) (o+k)).trans (s k D[k] (QP n));have c2:wr.cell? ⟨N,h+k,none⟩=some (.string S[k]):=(aa (m.get C (by simp)) (h+k)).trans (u k S[k] (QP d));have U:(k:Int)<D.length:=by omega
     have F:(k:Int)<S.length:=by omega
     have j:Hid _:=OS k n d
     have l:Hid ((D[k].toList==S[k].toList)=true->∀i (p:i<D.length) (q:i<S.length),i<k+1->(D[i].toList==S[i].toList)=true):=by
      intro P i p q Q
      by_cases e:i=k
      ·subst e;exact P
      ·exact a.out i p q (by omega)
     clear a s u A C
     cases r:(D[k].toList==S[k].toList)
     ·have b:Hid _:=j.out r
      have v:(D[k].toList != S[k].toList)=true:=by simp[bne,r]
      clear j l c
      go_upto_region 6 with fail
      go_quiet (fail)
      go_wp2;go_ret;exact⟨aD b.out.symm,m.drewN _⟩
     ·have b:Hid _:=l.out r
      have v:(D[k].toList != S[k].toList)=false:=by simp[bne,r]
      clear j l c
      go_upto_region 6 with fail
      go_quiet (fail)
      go_wp2
      go_roundg (D.length-(k+1))
      case measure=>omega
      case rel=>exact⟨k+1,by omega,rfl,by go_num,b.out,m.drewN _⟩
    ·have b:Hid (Dv D S=true):=Gf c (fun i p q=>a.out i p q (by omega))
     clear a s u;go_wp2;go_ret;exact⟨aD b.out.symm,m⟩
 ·have b:Hid (Dv D S=false):=Nm c
  have V:((D.length:Int) != S.length)=true:=by simp[bne];omega
  go_enter func211,ntmps211;go_wp2;go_ret;exact⟨aD b.out.symm,ab.refl _ _⟩
theorem JK(r:List Ex)(f:Nat->Hd)(x:ByteArray)(w:World)(h:ma w l H r f)(F:H.length<=1073741824) :
  Calls prog 278 #[.pointer (some ⟨l,0,none⟩),.string x] w fun e B=>e=.returned (.int .i64 (nB (pu H x)))/\B=w:=by
 obtain⟨s,t⟩:=h.cells;have m:=h.len;have a:aw w (f 0) (aB H):=h.bag.own 0;rw[m]at t;go_enter func278,ntmps278;go_wp2
 go_loopg [5] H.length (fun g i wr=>∃k:Nat,k<=H.length/\g=H.length-k/\i=.int .i64 k/\Hid (∀i,i<k->((H.getD i ⟨#[]⟩).toList==x.toList)=false)/\wr=w)
 case atStart=>exact⟨0,by omega,by omega,rfl,fun i p=>by omega,rfl⟩
 case round =>
  obtain⟨k,E,D,rfl,b,rfl⟩:=hrel
  by_cases c:k<H.length
  ·rcases a.Vm with ⟨_,z,_⟩ | ⟨g,u,n,-,v,-⟩
   ·have:H.length=0:=z
    omega
   ·have C:=a.cell n k (.string H[k]) (tC H k c)
    rw[n]at s;have d:Hid _:=qm H k c;have A:H.length<=(f 0).cap:=v;generalize H[k]=y at *
    cases o:(y.toList==x.toList)
    ·have q:Hid (∀i,i<k+1->((H.getD i ⟨#[]⟩).toList==x.toList)=false):=by
      intro i p
      by_cases e:i=k
      ·subst e;rw[d.out];exact o
      ·exact b.out i (by omega)
     clear d h a;go_wp2
     go_roundg (H.length-(k+1))
     case measure=>omega
     case rel=>exact⟨k+1,by omega,rfl,by go_num,q,rfl⟩
    ·have j:Hid (pu H x=some k):=nV c (by rw[d.out];exact o) b.out
     clear d h a;go_wp2;go_ret;exact⟨QN (by rw[j.out];rfl),rfl⟩
  ·have j:Hid (pu H x=none):=mI (fun i p=>b.out i (by omega))
   clear h a;go_wp2;go_ret;exact⟨QN (by rw[j.out];rfl),rfl⟩
theorem tE{P:Program}{A:Array Oper}{p:List Oper}{o:Oper}{a:Act}{Q:Exit->Act->World->Prop}(V:o.guard=none)(s x:Operand)(t:TypeId)(F:o.op=Op.call { callee:=Callee.builtin Builtin.append,args:=#[s,x],argTypes:=#[t,t] })(i:TypeInfo)(z:Value)(d:Nat)(h:Hd)(r:dN)(L:P.underlying t=some (.slice r.e))(M:P.info? r.e=some i)(N:i.zero=some z)(O:i.size=r.size)(R:i.bytes=d)(S:z.cells.size=r.size)(T:0<r.size)(X:a.eval s=.slice h.ao r.n h.cap)(y:aw f h r)(C:Addr)(m c:Nat)(b:List Value)(Y:a.eval x=.slice (some C) m c)(W:b.length=m*r.size)(U:∀j u,b[j]?=some u->f.cell? (C.add j)=some u)(E:∀u∈b,u.oneCell'=true)(J:r.n+m<=maxLen)(K:(r.n+m)*d<=140737488355328)(I:∀k q,aw q k ⟨r.e,r.size,r.n+m,r.xs++b⟩->f.grownBy q h.blk->(k.blk=h.blk∨k.blk=some f.heap.size)->wpList P A Q p (a.put o.dst (.slice k.ao (r.n+m) k.cap)) q) :
  wpList P A Q (o :: p) a f:=by
 refine wpList_append_own_at f V s x t F 0 r.e i z r.size d L M N O R S T (.slice h.ao r.n h.cap) r.n r.xs X y C m c b Y W U E J K (Ro _) ?_;intro v' q G H Z B;rw[Ar]at H B
 rcases G.2 with ⟨v,w⟩ | ⟨g,l,D,v,w⟩
 ·have:=I ⟨none,0⟩ q ⟨G.1,Q1 ⟨by rw[w],w⟩⟩ H (by rw[v]at B;exact B)
  rw[v];rw[w]at this;exact this
 ·have:=I ⟨some ⟨g,0,none⟩,l⟩ q ⟨G.1,QV ⟨g,l,D,rfl,w⟩⟩ H (by rw[v]at B;exact B)
  rw[v];exact this
def G8(vs:List ByteArray)(bs:List (List ByteArray))(x:ByteArray):List ByteArray:=match pu vs x with | none=>[x] | some i=>bs.getD i []
def ly(vs:List ByteArray)(bs:List (List ByteArray)):List ByteArray->List ByteArray->List ByteArray
 | [],acc=>acc
 | x :: r,acc=>if acc.length<=32 then ly vs bs r (acc++G8 vs bs x) else acc
def nY(vs:List ByteArray)(bs:List (List ByteArray))(sy:List ByteArray):List ByteArray:=ly vs bs sy []
theorem N4(b:l<D.length)(a:S.length<=32):ly k z5 (D.drop l) S=ly k z5 (D.drop (l+1)) (S++G8 k z5 D[l]):=by
 rw[Rf b,ly,QW a]
theorem Jw(a:¬H.length<=32):ly k z5 S H=H:=by
 cases S with
 | nil=>rfl
 | cons x r=>rw[ly,QT a]
theorem Mg(a:¬l<D.length):ly k z5 (D.drop l) S=S:=by
 rw[R8 (by omega)];rfl
theorem KJ(x:ByteArray)(M:Nat)(a:1<=M)(h:∀b∈z5,b.length<=M):(G8 k z5 x).length<=M:=by
 unfold G8
 split
 ·simpa using a
 ·next i _ =>
  rw[QQ]
  cases e:z5[i]? with
  | none=>simp
  | some b=>simpa using h b (R4 e)
theorem E5(e:1<=l)(h:∀b∈z5,b.length<=l)(d a:List ByteArray)(c:a.length<=32+l):(ly k z5 d a).length<=32+l:=by
 induction d generalizing a with
 | nil=>exact c
 | cons x r f =>
  rw[ly]
  split
  ·have:=KJ k z5 x l e h
   exact f _ (by simp;omega)
  ·exact c
theorem Jv(c:1<=l)(h:∀b∈z5,b.length<=l)(a:List ByteArray):(nY k z5 a).length<=32+l:=E5 k z5 l c h a [] (by simp)
theorem JE:(⟨(aB S).e,(aB S).size,(aB S).n+H.length,(aB S).xs++cN H⟩:dN)=aB (S++H):=by simp[aB,cN]
theorem jT.cells{d:Addr}(v:jT T y5 L)(e:y5.ao=some d):∀j u,(cN L)[j]?=some u->T.cell? (d.add j)=some u:=by
 intro j u h
 rcases v with rfl | ⟨g,a,i,t,f,k,l,-⟩
 ·simp[cN]at h
 ·rw[e]at f
  cases f
  have b:(L[j]?).map Value.string=some u:=by simpa [cN] using h
  cases c:L[j]? with
  | none=>rw[c]at b;cases b
  | some x =>
   rw[c]at b;cases b
   have:(⟨g,a,none⟩:Addr).add j=⟨g,a+j,none⟩:=by
    simp only[Addr.add]
    split
    ·next m=>subst m;rfl
    ·rfl
   rw[this,aa k];exact l j x c
set_option maxRecDepth 100000
theorem pT(d:List Ex)(af:Nat->Hd)(hy:Hd)(f:List ByteArray)(w:World)(h:ma w l H d af)(hl:H.length<=10000)(an:∀e∈d,e.xs.length<=10000)(hv:jT w hy f)(ar:f.length<=10000) :
  Calls prog 274 #[.pointer (some ⟨l,0,none⟩),.slice hy.ao f.length hy.cap] w fun e w'=>∃o:Hd,
   e=.returned (.slice o.ao (nY H (d.map Ex.xs) f).length o.cap)/\aw w' o (aB (nY H (d.map Ex.xs) f))/\(∀x,o.blk=some x->w.heap.size<=x)/\ab [] w w':=by
 obtain⟨i0,hi,X,Y,Z⟩:=Re js;obtain⟨ao,aS⟩:=hy
 rcases hv with rfl | ⟨g,ac,aT,t,e1,e2,e3,e4,e5⟩
 ·clear ar
  go_enter func274,ntmps274;go_wp2;refine SZ 1 ?_;rw[Tr];go_wp2;go_ret;exact⟨⟨none,0⟩,rfl,QZ _ _ _ _,by intro x v;simp[Hd.blk]at v,ab.refl _ _⟩
 simp only at e1 e4 e5;subst e1;obtain⟨R,HR⟩:∃R,Hid (R=nY H (d.map Ex.xs) f):=⟨_,rfl⟩
 rw[<-HR.out];go_enter func274,ntmps274;go_wp2
 go_loopg [5,6] f.length (fun gk sv i wr=>∃(k:Nat) (o:Hd) (a:List ByteArray),k<=f.length/\gk=f.length-k/\i=.int .i64 k/\sv=.slice o.ao a.length o.cap/\a.length<=10032/\Hid (R=ly H (d.map Ex.xs) (f.drop k) a)/\aw wr o (aB a)/\(∀x,o.blk=some x->w.heap.size<=x)/\ab [] w wr)
 case atStart=>exact⟨0,⟨none,0⟩,[],by omega,by omega,rfl,rfl,by simp,HR.out,QZ _ _ _ _,by intro x v;simp[Hd.blk]at v,ab.refl _ _⟩
 case round =>
  obtain⟨k,o,a,hk,hg,rfl,rfl,a0,r,P,K,C⟩:=hrel;have S:=h.Vb C
  by_cases I:k<f.length
  ·by_cases ha:a.length<=32
   ·have al:(a.length:Int)<=32:=by omega
    have c2:wr.cell? ⟨g,ac+k,none⟩=some (.string f[k]):=(aa (C.get e2 (by simp)) (ac+k)).trans (e3 k f[k] (QP I));have z:Hid _:=r.out.trans (N4 H (d.map Ex.xs) f a k I ha);have M:Hid _:=(fun w1 h1=>JK l H d af f[k] w1 h1 (by omega));clear r e3;generalize f[k]=y at *
    rcases hp:pu H y with _ | p
    ·have c:Hid (R=ly H (d.map Ex.xs) (f.drop (k+1)) (a++[y])):=by show _=_;rw[z.out];simp[G8,hp]
     have Q:=P.Vg (fun x v=>((ab.refl [] wr).alloc (.cells #[.string y] 9)).block x (P.lt v) (by simp));clear z
     go_upto_region 7 with (go_at_call 278;refine(M.out _ S).mono ?_;rintro e w3 ⟨rfl,J⟩;rw[J,hp];simp only[nB])
     go_wp2_with (at_builtin;refine aM _ rfl (.tmp 27) (.tmp 32) 61 rfl i0 (.string ⟨#[]⟩) 16 o (aB a) underlying61 hi X Y Z rfl Rc rfl (by exact Q) ⟨_,0,none⟩ 1 1 [.string y] rfl rfl ?d1 ?d2 Rc ?d3 ?d4 ?_)
     case d1=>intro j u hj;match j,hj with | 0,hj=>simp at hj;subst hj;simp[Addr.add]
     case d2=>intro u W;simp at W;subst W;rfl
     case d3=>simp only[aB];unfold maxLen;omega
     case d4=>simp only[aB];omega
     intro g5 N w5 s m b;rw[dr a y]at s;have O:=C.alloc (.cells #[.string y] 9);have D:=O.grown m K
     have U:w.heap.size<=g5:=by
      rcases b with e | e
      ·exact K g5 e
      ·have:=O.size;simp at e this;omega
     have B:Hid ((aB a).n+1=(a++[y]).length):=by show _=_;simp[aB]
     rw[B.out];clear m b Q;go_wp2
     go_roundg (f.length-(k+1))
     case measure=>omega
     case rel=>exact⟨k+1,⟨some ⟨g5,0,none⟩,N⟩,a++[y],by omega,rfl,by go_num,rfl,by simp;omega,c.out,s,by intro x v;simp[Hd.blk]at v;omega,D⟩
    ·have a2:p<H.length:=by
      have:=Rz hp;simpa using this
     have a1:=h.len;have A:p<d.length:=by omega
     have c:Hid (R=ly H (d.map Ex.xs) (f.drop (k+1)) (a++d[p].xs)):=by show _=_;rw[z.out];simp[G8,hp,A]
     have G:=S.exs d[p] (Rb A);have ap:=an d[p] (Rb A);obtain⟨ad,F⟩:=G.adr;have V:=G.view.cells F;obtain⟨s0,s1⟩:=S.cells;have E:aw wr (af 1) (gn d):=S.bag.own 1
     rcases E.Vm with ⟨_,h0,_⟩ | ⟨gb,ax,eb,-,ag,-⟩
     ·have:d.length=0:=h0
      omega
     have cb:=E.cell eb p (v6 d[p]) (sB d p A);have az:d.length<=(af 1).cap:=ag;rw[eb]at s1;unfold v6 at cb;rw[F]at cb;have L:Hid _:=V;clear z G F V E eb;generalize d[p]=ex at *;obtain⟨ai,q⟩:=ex;simp only at cb ap c L
     go_upto_region 8 with (go_at_call 278;refine(M.out _ S).mono ?_;rintro e w3 ⟨rfl,J⟩;rw[J,hp];simp only[nB])
     go_wp2_with (at_builtin;refine tE _ rfl (.tmp 34) (.tmp 41) 61 rfl i0 (.string ⟨#[]⟩) 16 o (aB a) underlying61 hi X Y Z rfl Rc rfl (by exact P) ad q.length ai.cap (cN q) rfl (by simp[cN,aB]) L.out ?d2 ?d3 ?d4 ?_)
     case d2=>intro u W;simp[cN]at W;obtain⟨_,_,rfl⟩:=W;rfl
     case d3=>simp only[aB];unfold maxLen;omega
     case d4=>simp only[aB];omega
     intro T w5 s m b;rw[JE a q]at s;have D:=C.grown m K
     have U:∀x,T.blk=some x->w.heap.size<=x:=by
      intro x v
      rcases b with e | e
      ·exact K x (e ▸ v)
      ·rw[e]at v;cases v;exact C.size
     have B:Hid ((aB a).n+q.length=(a++q).length):=by show _=_;simp[aB]
     rw[B.out];clear m b;go_wp2
     go_roundg (f.length-(k+1))
     case measure=>omega
     case rel=>exact⟨k+1,T,a++q,by omega,rfl,by go_num,rfl,by simp;omega,c.out,s,U,D⟩
   ·have al:¬(a.length:Int)<=32:=by omega
    have c:Hid (a=R):=(r.out.trans (Jw _ _ _ _ ha)).symm;clear r e3;go_wp2;go_ret;exact⟨o,by rw[<-c.out];rfl,by rw[<-c.out];exact P,K,C⟩
  ·have c:Hid (a=R):=(r.out.trans (Mg _ _ _ _ _ I)).symm
   clear r e3;go_wp2;go_ret;exact⟨o,by rw[<-c.out];rfl,by rw[<-c.out];exact P,K,C⟩
def mW(s:St)(e:List ByteArray)(S:List ByteArray×List (List ByteArray)):Int×List ByteArray×List (List ByteArray) :=
 if(s.kind==3)=true then(if Dv (nY S.1 S.2 s.U6) e=true then(0,S) else(8,S))
 else match e with
  | []=>(7,S)
  | x :: r=>if(x.toList==(iz s).toList)=true then(0,S.1++[aL s],S.2++[r]) else(7,S)
structure rd(w:World)(b:Nat)(H:Nat->Hd)(h:Hd)(l:List ByteArray):Prop where
 view:jT w h l
 far:∀x,h.blk=some x->x<w.heap.size/\x≠b/\¬f9 H x
theorem rd.Vb(f:rd T n y y5 L)(k:ab [] T z4):rd z4 n y y5 L :=
 ⟨f.view.Vb k,fun x a=>⟨QX (f.far x a).1 k.size,(f.far x a).2⟩⟩
def jb(g off cap:Nat)(r:List ByteArray):Ex:=⟨⟨if cap=1 then some ⟨g,off,none⟩ else some ⟨g,off+1,none⟩,cap-1⟩,r⟩
theorem MC:(jb b d l H).hd.blk=some b:=by unfold jb Hd.blk;simp only;split <;> rfl
theorem Og{x:ByteArray}(h:rd T n y ⟨some ⟨o,z7,none⟩,l⟩ (x :: L)):AW T n y (jb o z7 l L):=by
 have p:(jb o z7 l L).hd.blk=some o:=by unfold jb Hd.blk;simp only;split <;> rfl
 refine⟨?_,?_,fun c a=>h.far c (by rw[p]at a;exact a)⟩
 ·by_cases d:L=[]
  ·subst d;exact Q1 rfl
  ·rcases h.view with q | ⟨r,e,b,t,f,g,i,k,m⟩
   ·cases q
   ·cases f
    have s:0<L.length:=TU.2 d;simp only[List.length_cons]at k;refine QV ⟨o,z7+1,b,t,by simp only[jb];rw[QT (by omega)],g,fun j c a=>?_,by simp only[jb];omega,by simp only[jb]at m ⊢;omega⟩;have:=i (j+1) c (by simpa [jb] using a);rw[show z7+1+j=z7+(j+1) by omega];exact this
 ·unfold jb
  simp only
  split
  ·exact⟨_,rfl⟩
  ·exact⟨_,rfl⟩
theorem Nr(a:List Ex)(i:Nat->Hd)(s:St)(o A O:Hd)(E:List ByteArray)(w:World)(h:ma w l H a i)(hl:H.length<=9999)(ac:∀e∈a,e.xs.length<=10000)(hs:jT w o s.U6)(a3:s.U6.length<=10000)(hx:rd w l i O E)(bw:E.length<=10000) :
  Calls prog 272 #[.pointer (some ⟨l,0,none⟩),ee s o A,.slice O.ao E.length O.cap] w fun e d=>∃(S:List Ex) (H':Nat->Hd),
   e=.returned (.int .i64 (mW s E (H,a.map Ex.xs)).1)/\ma d l (mW s E (H,a.map Ex.xs)).2.1 S H'/\S.map Ex.xs=(mW s E (H,a.map Ex.xs)).2.2/\aA l w i d H'/\∀e∈S,e∈a∨e.hd.blk=O.blk:=by
 obtain⟨i0,hi,ba,bc,bd⟩:=Re js;obtain⟨i1,a0,a5,a6,a7⟩:=Re Lu;have bs:a.length<=9999:=by have:=h.len;omega
 unfold ee;obtain⟨W,hW⟩:∃W,W=w.alloc (.cells #[.int .i64 s.kind,.string s.label,.slice o.ao s.U6.length o.cap,.slice A.ao s.Vh.length A.cap,.string s.fin.file,.int .i64 s.fin.line,.int .i64 s.fin.col,.int .i64 s.til] 158):=⟨_,rfl⟩
 have K:ab [] w W:=by rw[hW];exact(ab.refl [] _).alloc _
 have B:W.heap[w.heap.size]?=some (.cells #[.int .i64 s.kind,.string s.label,.slice o.ao s.U6.length o.cap,.slice A.ao s.Vh.length A.cap,.string s.fin.file,.int .i64 s.fin.line,.int .i64 s.fin.col,.int .i64 s.til] 158 (0,0)):=by rw[hW];exact QS _ _
 have HW:Hid _:=hW.symm;have u0:W.cell? ⟨w.heap.size,0,none⟩=some (.int .i64 s.kind):=by rw[aa B];rfl
 have u1:W.cell? ⟨w.heap.size,1,none⟩=some (.string s.label):=by rw[aa B];rfl
 have u2:W.cell? ⟨w.heap.size,2,none⟩=some (.slice o.ao s.U6.length o.cap):=by rw[aa B];rfl
 have u3:W.cell? ⟨w.heap.size,3,none⟩=some (.slice A.ao s.Vh.length A.cap):=by rw[aa B];rfl
 have u4:W.cell? ⟨w.heap.size,4,none⟩=some (.string s.fin.file):=by rw[aa B];rfl
 have u5:W.cell? ⟨w.heap.size,5,none⟩=some (.int .i64 s.fin.line):=by rw[aa B];rfl
 have u6:W.cell? ⟨w.heap.size,6,none⟩=some (.int .i64 s.fin.col):=by rw[aa B];rfl
 have u7:W.cell? ⟨w.heap.size,7,none⟩=some (.int .i64 s.til):=by rw[aa B];rfl
 have V:=h.Vb K;have M:=hs.Vb K;have ap:=hx.Vb K;clear hW
 cases Q:(s.kind==3)
 ·rcases E with _ | ⟨x,r⟩
  ·have v:Hid (mW s [] (H,a.map Ex.xs)=(7,H,a.map Ex.xs)):=by show _=_;simp[mW,Q]
   clear u1 u2 u3 u4 u5 u6 u7;go_enter func272,ntmps272
   go_upto_region 1 with fail
   rw[HW.out]
   go_upto_region 5 with fail
   go_quiet (fail)
   go_wp2;go_ret;exact⟨a,i,QN (by rw[v.out]),by rw[v.out];exact V.Vb ((ab.refl [] _).drewN _),by rw[v.out],(aA.refl _ _ _).Vb (K.drewN _),fun _ q=>Q1 q⟩
  ·obtain⟨bk,b⟩:=O
   rcases ap.view with ag | ⟨g,c,bl,t,e1,e2,e3,e4,e5⟩
   ·cases ag
   simp only at e1 e4 e5;subst e1;have a1:¬((r.length:Int)+1==0)=true:=by simp;omega
   have HN:Hid ((x :: r).length=r.length+1):=rfl;have bv:(0:Int)<(r.length:Int)+1:=by omega
   have bj:(1:Int)<=(r.length:Int)+1:=by omega
   rw[HN.out]at *;have cx:W.cell? ⟨g,c,none⟩=some (.string x):=by have:=(aa e2 c).trans (by simpa using e3 0 x rfl);exact this
   have br:=ae e2;have TC:=AI s o A;unfold ee at TC;have Z:Hid _:=TC
   have HC:Hid (∀d,ab [] W.drew d->d.cell? ⟨g,c,none⟩=some (.string x)/\d.cell? ⟨w.heap.size,0,none⟩=some (.int .i64 s.kind)/\d.cell? ⟨w.heap.size,1,none⟩=some (.string s.label)/\d.cell? ⟨w.heap.size,2,none⟩=some (.slice o.ao s.U6.length o.cap)/\d.cell? ⟨w.heap.size,3,none⟩=some (.slice A.ao s.Vh.length A.cap)/\d.cell? ⟨w.heap.size,4,none⟩=some (.string s.fin.file)/\d.cell? ⟨w.heap.size,5,none⟩=some (.int .i64 s.fin.line)/\d.cell? ⟨w.heap.size,6,none⟩=some (.int .i64 s.fin.col)/\d.cell? ⟨w.heap.size,7,none⟩=some (.int .i64 s.til)):=by
    intro d k;have q:=k.get (show W.drew.heap[w.heap.size]?=_ from B) (by simp);have q2:=k.get (show W.drew.heap[g]?=_ from e2) (by simp);refine⟨(aa q2 c).trans (by simpa using e3 0 x rfl),?_,?_,?_,?_,?_,?_,?_,?_⟩ <;> (rw[aa q];rfl)
   clear TC e3;go_enter func272,ntmps272
   go_upto_region 1 with fail
   rw[HW.out]
   go_upto_region 5 with fail
   cases hc:(x.toList==(iz s).toList)
   ·have v:Hid (mW s (x :: r) (H,a.map Ex.xs)=(7,H,a.map Ex.xs)):=by show _=_;simp[mW,Q,hc]
    have az:(x.toList != (iz s).toList)=true:=by simp[bne,hc]
    go_region_held3 (fun d=>d.cell? ⟨g,c,none⟩=some (.string x)/\d.cell? ⟨w.heap.size,0,none⟩=some (.int .i64 s.kind)/\d.cell? ⟨w.heap.size,1,none⟩=some (.string s.label)/\d.cell? ⟨w.heap.size,2,none⟩=some (.slice o.ao s.U6.length o.cap)/\d.cell? ⟨w.heap.size,3,none⟩=some (.slice A.ao s.Vh.length A.cap)/\d.cell? ⟨w.heap.size,4,none⟩=some (.string s.fin.file)/\d.cell? ⟨w.heap.size,5,none⟩=some (.int .i64 s.fin.line)/\d.cell? ⟨w.heap.size,6,none⟩=some (.int .i64 s.fin.col)/\d.cell? ⟨w.heap.size,7,none⟩=some (.int .i64 s.til)) (go_keep) (first | (go_at_call 191;refine(Z.out _ (by exact M.Vb (ab.refl [] _).drew) (by omega)).mono ?_;rintro e U ⟨rfl,F⟩;obtain⟨x0,x1,x2,x3,x4,x5,x6,x7,x8⟩:=HC.out U F))
    all_goals
     clear u0 u1 u2 u3 u4 u5 u6 u7 cx;go_wp2;go_ret;exact⟨a,i,QN (by rw[v.out]),by rw[v.out];exact V.Vb (((ab.refl [] _).drew).trans F),by rw[v.out],(aA.refl _ _ _).Vb (K.drew.trans F),fun _ q=>Q1 q⟩
   ·have v:Hid (mW s (x :: r) (H,a.map Ex.xs)=(0,H++[aL s],a.map Ex.xs++[r])):=by show _=_;simp[mW,Q,hc]
    have az:(x.toList != (iz s).toList)=false:=by simp[bne,hc]
    have VA:=mq s o A;unfold ee at VA;have ar:Hid _:=VA;clear VA
    go_region_held3 (fun d=>d.cell? ⟨g,c,none⟩=some (.string x)/\d.cell? ⟨w.heap.size,0,none⟩=some (.int .i64 s.kind)/\d.cell? ⟨w.heap.size,1,none⟩=some (.string s.label)/\d.cell? ⟨w.heap.size,2,none⟩=some (.slice o.ao s.U6.length o.cap)/\d.cell? ⟨w.heap.size,3,none⟩=some (.slice A.ao s.Vh.length A.cap)/\d.cell? ⟨w.heap.size,4,none⟩=some (.string s.fin.file)/\d.cell? ⟨w.heap.size,5,none⟩=some (.int .i64 s.fin.line)/\d.cell? ⟨w.heap.size,6,none⟩=some (.int .i64 s.fin.col)/\d.cell? ⟨w.heap.size,7,none⟩=some (.int .i64 s.til)) (go_keep) (first | (go_at_call 191;refine(Z.out _ (by exact M.Vb (ab.refl [] _).drew) (by omega)).mono ?_;rintro e U ⟨rfl,F⟩;obtain⟨x0,x1,x2,x3,x4,x5,x6,x7,x8⟩:=HC.out U F))
    all_goals
     have L:=V.Vb (((ab.refl [] _).drew).trans F);have bo:=L.bag.lt;have aT:=L.bag.free;obtain⟨m0,m1⟩:=L.cells;have a4:=M.Vb (((ab.refl [] _).drew).trans F);clear u0 u1 u2 u3 u4 u5 u6 u7 cx x0
     go_upto_region 7 with fail
     have s4:Hid ((aB H).n+1<=maxLen):=by show _<=_;simp only[aB];unfold maxLen;omega
     have s5:Hid (((aB H).n+1)*16<=140737488355328):=by show _<=_;simp only[aB];omega
     have s3:Hid (∀u∈([.string (aL s)]:List Value),u.oneCell'=true):=by intro u hu;simp at hu;subst hu;rfl
     have ax:Hid (∀J,ab [] U.drew J->ma J l H a i/\ma (J.alloc (.cells #[.string (aL s)] 9)) l H a i/\∀j u,([.string (aL s)]:List Value)[j]?=some u->(J.alloc (.cells #[.string (aL s)] 9)).cell? ((⟨J.heap.size,0,none⟩:Addr).add j)=some u):=by
      intro J k;have q:=L.Vb (((ab.refl [] U).drew).trans k);refine⟨q,q.Vb ((ab.refl [] _).alloc _),fun j u G=>?_⟩;have Q:(J.alloc (.cells #[.string (aL s)] 9)).heap[J.heap.size]?=some (.cells #[.string (aL s)] 9 (0,0)):=QS _ _;rw[bL,aa Q];simpa using G
     have a2:Hid (∀j,j≠0->pW (H++[aL s]) a j=pW H a j):=by
      intro j G
      match j,G with
      | 0,G=>exact absurd rfl G
      | 1,_=>rfl
      | m+2,_=>rfl
     go_region_law (first | (refine cd rfl (.tmp 32) (.tmp 35) 61 rfl i0 (.string ⟨#[]⟩) 16 (i 0) (aB H) underlying61 hi ba bc bd rfl Rc (by simp[Act.eval] <;> rfl) (y1.bag.own 0) ⟨_,0,none⟩ 1 1 [.string (aL s)] (by simp[Act.eval] <;> rfl) rfl y2 s3.out Rc s4.out s5.out ?_;intro I f w5 al af D;obtain⟨k5,f5,HP⟩:=a8.app y1.bag (cs':=oU (H++[aL s]) a (g9 i 0 ⟨some ⟨I,0,none⟩,f⟩)) (rows':=pW (H++[aL s]) a) 0 0 I f ((aB H).n+1) _ al (dr H (aL s)) af (by simpa using D) a2.out (.slice (i 0).ao H.length (i 0).cap) rfl (by simp[oU,g9,aB]);clear al af D) | (go_simp;go_at_call 189;refine(ar.out _ (by exact a4.Vb (ab.refl [] _).drew) (by omega)).mono ?_;rintro e J ⟨rfl,k4⟩;obtain⟨y0,y1,y2⟩:=ax.out J k4;obtain⟨n0,n1⟩:=y0.cells;obtain⟨p0,p1⟩:=y1.cells))
     all_goals
      generalize hX:w5.setCell ⟨l,0,none⟩ (.slice (some ⟨I,0,none⟩) ((aB H).n+1) f)=X at HP ⊢;have T5:Hid (aA l w i X (g9 i 0 ⟨some ⟨I,0,none⟩,f⟩)):=(((HP.out.2.first ((ab.refl [] _).alloc _)).first (((ab.refl [] U).drew).trans k4)).first (K.drew.trans F));have D5:=HP.out.1;have q1:=D5.cell 1;have aS:=D5.free;have bp:=D5.lt;simp only[oU,List.getElem?_cons_succ,List.getElem?_cons_zero]at q1;clear hX k5 f5 n0 n1 p0 p1 y0 y1 y2 m0 m1 aT x1 x2 x3 x4 x5 x6 x7 x8
      go_upto_region 8 with fail
      have hD:Hid (a8 (X.alloc (.cells #[v6 (jb g c b r)] 61)).drew l 343 (oU (H++[aL s]) a (g9 i 0 ⟨some ⟨I,0,none⟩,f⟩)) (pW (H++[aL s]) a) (g9 i 0 ⟨some ⟨I,0,none⟩,f⟩)):=D5.Vb ((ab.refl [] X).alloc _).drew
      have s2:Hid (∀j u,([v6 (jb g c b r)]:List Value)[j]?=some u->(X.alloc (.cells #[v6 (jb g c b r)] 61)).drew.cell? ((⟨X.heap.size,0,none⟩:Addr).add j)=some u):=by
       intro j u G;have Q:(X.alloc (.cells #[v6 (jb g c b r)] 61)).drew.heap[X.heap.size]?=some (.cells #[v6 (jb g c b r)] 61 (0,0)):=QS _ _;rw[bL,aa Q];simpa using G
      have T:Hid (∀u∈([v6 (jb g c b r)]:List Value),u.oneCell'=true):=by intro u hu;simp at hu;subst hu;rfl
      have bf:Hid ((gn a).n+1<=maxLen):=by show _<=_;simp only[gn];unfold maxLen;omega
      have bg:Hid (((gn a).n+1)*24<=140737488355328):=by show _<=_;simp only[gn];omega
      have ai:Hid (∀j,j≠1->pW (H++[aL s]) (a++[jb g c b r]) j=pW (H++[aL s]) a j):=by
       intro j G
       match j,G with
       | 0,_=>rfl
       | 1,G=>exact absurd rfl G
       | m+2,_=>rfl
      unfold v6 at hD s2 T;simp only[jb]at hD s2 T
      go_region_law (refine cd rfl (.tmp 43) (.tmp 46) 218 rfl i1 (.slice none 0 0) 24 (g9 i 0 ⟨some ⟨I,0,none⟩,f⟩ 1) (gn a) underlying218 a0 a5 a6 a7 rfl Rc (by simp[Act.eval] <;> rfl) (hD.out.own 1) ⟨X.heap.size,0,none⟩ 1 1 _ (by simp[Act.eval]) rfl s2.out T.out Rc bf.out bg.out ?_;intro g6 N w6 an P p;obtain⟨k6,f6,Y⟩:=a8.app hD.out (cs':=oU (H++[aL s]) (a++[jb g c b r]) (g9 (g9 i 0 ⟨some ⟨I,0,none⟩,f⟩) 1 ⟨some ⟨g6,0,none⟩,N⟩)) (rows':=pW (H++[aL s]) (a++[jb g c b r])) 1 1 g6 N ((gn a).n+1) _ an (ug a (jb g c b r)) P (by simpa using p) ai.out (.slice (g9 i 0 ⟨some ⟨I,0,none⟩,f⟩ 1).ao a.length (g9 i 0 ⟨some ⟨I,0,none⟩,f⟩ 1).cap) rfl (by simp[oU,g9,gn]);clear an P p)
      all_goals
       have T6:Hid _:=T5.out.trans (Y.out.2.first ((ab.refl [] _).alloc _).drew);clear q1 aS k6 f6;generalize (if b=1 then some (⟨g,c,none⟩:Addr) else some ⟨g,c+1,none⟩)=AE;go_wp2;go_ret;refine⟨a++[jb g c b r],_,QN (by rw[v.out]),?_,by rw[v.out];simp[jb],T6.out,fun e q=>by rw[Rr]at q;rcases q with q | q;exact Q1 q;simp at q;subst q;exact QV (MC g c b r)⟩;rw[v.out];refine⟨Y.out.1,by simp[h.len],?_⟩;intro e C;rw[Rr]at C
       rcases C with C | C
       ·exact(h.exs e C).turned T6.out
       ·simp at C;subst C
        exact(Og b hx).turned T6.out
 ·go_enter func272,ntmps272
  go_upto_region 1 with fail
  rw[HW.out];have RA:=pT l H a i o s.U6 W V (by omega) ac M a3;have RL:=Jv H (a.map Ex.xs) 10000 (by omega) (by intro y hy;obtain⟨e,O,rfl⟩:=Si.1 hy;exact ac e O) s.U6;have v:Hid (mW s E (H,a.map Ex.xs)=if Dv (nY H (a.map Ex.xs) s.U6) E=true then(0,H,a.map Ex.xs) else(8,H,a.map Ex.xs)):=by show _=_;simp[mW,Q]
  generalize nY H (a.map Ex.xs) s.U6=R at *;clear u1 u3 u4 u5 u6 u7;go_wp2_with fail;refine RA.mono ?_;rintro e w2 ⟨hd,rfl,ho,hn,k2⟩;go_wp2_with fail;refine(yo hd O R E w2 ho.view (ap.view.Vb k2) (by omega) (by omega)).mono ?_;rintro e U ⟨rfl,F⟩
  cases ad:Dv R E
  ·have z:Hid (mW s E (H,a.map Ex.xs)=(8,H,a.map Ex.xs)):=by show _=_;rw[v.out,ad];simp
   clear v RA;go_wp2;go_ret;exact⟨a,i,QN (by rw[z.out]),by rw[z.out];exact(V.Vb k2).Vb F,by rw[z.out],(aA.refl _ _ _).Vb ((K.trans k2).trans F),fun _ q=>Q1 q⟩
  ·have z:Hid (mW s E (H,a.map Ex.xs)=(0,H,a.map Ex.xs)):=by show _=_;rw[v.out,ad];simp
   clear v RA;go_wp2;go_ret;exact⟨a,i,QN (by rw[z.out]),by rw[z.out];exact(V.Vb k2).Vb F,by rw[z.out],(aA.refl _ _ _).Vb ((K.trans k2).trans F),fun _ q=>Q1 q⟩
set_option maxRecDepth 512
theorem Ck(c:aw f z6 (bB I))(t:I.length<=1073741824) :
  Calls prog 280 #[.slice z6.ao I.length z6.cap,.int .i64 d] f fun e u=>e=.returned (.bool (jG I d))/\u=f:=by
 obtain⟨v,q⟩:=z6
 rcases c.Vm with ⟨s,p,_⟩ | ⟨g,r,o,_⟩
 ·have l:I.length=0:=p
  have n:I=[]:=Rk l;subst n;clear c p l t s;go_enter func280,ntmps280;go_wp2;refine SZ 1 ?_;rw[Tr];go_wp2;go_ret;exact⟨rfl,rfl⟩
 ·simp only at o
  subst o;go_enter func280,ntmps280;go_wp2
  go_loopg [5] I.length (fun g i wr=>∃k:Nat,k<=I.length/\g=I.length-k/\i=.int .i64 k/\Hid (jG I d=jG (I.drop k) d)/\wr=f)
  case atStart=>exact⟨0,by omega,by omega,rfl,rfl,rfl⟩
  case round =>
   obtain⟨k,y,x,rfl,h,rfl⟩:=hrel
   by_cases a:k<I.length
   ·have w:=c.cell rfl k (.int .i64 I[k]) (jP I k a)
    cases b:(I[k]==d)
    ·have j:Hid (jG I d=jG (I.drop (k+1)) d):=yE I d k a h.out b
     have m:=(oF I[k] d).trans b;clear h c b;go_wp2
     go_roundg (I.length-(k+1))
     case measure=>omega
     case rel=>exact⟨k+1,by omega,rfl,by go_num,j,rfl⟩
    ·have j:Hid (jG I d=true):=BQ I d k a h.out b
     have m:=(oF I[k] d).trans b;clear h c b;go_wp2;go_ret;exact⟨aD j.out.symm,rfl⟩
   ·have j:Hid (jG I d=false):=yF I d k a h.out
    clear h c;go_wp2;go_ret;exact⟨aD j.out.symm,rfl⟩
structure xE(w:World)(b rb ro g n tb:Nat):Prop where
 blk:∃arr t,w.heap[b]?=some (.cells arr t (0,0))/\arr[0]?=some (.pointer (some ⟨rb,ro,none⟩))/\arr[1]?=some (.slice (some ⟨g,0,none⟩) n n)/\arr[2]?=some (.pointer (some ⟨tb,0,none⟩))
theorem xE.Vb(h:xE T n o z7 zb y6 yg)(k:ab [] T z4):xE z4 n o z7 zb y6 yg:=by
 obtain⟨a,t,b,c⟩:=h.blk;exact⟨a,t,k.get b (by simp),c⟩
theorem xE.cells{g:Nat}(h:xE T n o z7 g zb y6):T.cell? ⟨n,0,none⟩=some (.pointer (some ⟨o,z7,none⟩))/\T.cell? ⟨n,1,none⟩=some (.slice (some ⟨g,0,none⟩) zb zb)/\T.cell? ⟨n,2,none⟩=some (.pointer (some ⟨y6,0,none⟩)):=by
 obtain⟨b,t,a,c,d,e⟩:=h.blk;exact⟨(aa a 0).trans c,(aa a 1).trans d,(aa a 2).trans e⟩
def pQ(vs:List ByteArray):List ByteArray->List Nat->List Nat
 | [],acc=>acc
 | x :: r,acc=>match pu vs x with
  | none=>pQ vs r acc
  | some p=>if jG acc p=true then pQ vs r acc else pQ vs r (acc++[p])
def kO(vs xs:List ByteArray):List Nat:=pQ vs xs []
theorem NV(a:l<S.length):pQ D (S.drop l) I=match pu D S[l] with
  | none=>pQ D (S.drop (l+1)) I
  | some p=>if jG I p=true then pQ D (S.drop (l+1)) I else pQ D (S.drop (l+1)) (I++[p]):=by
 rw[Rf a];rfl
theorem LU(a:¬l<S.length):pQ D (S.drop l) I=I:=by
 rw[R8 (by omega)];rfl
theorem CF(c:List ByteArray)(a:List Nat)(h:∀p∈a,p<H.length):(∀p∈pQ H c a,p<H.length)/\(pQ H c a).length<=a.length+c.length:=by
 induction c generalizing a with
 | nil=>exact⟨h,by simp[pQ]⟩
 | cons x r d =>
  rw[pQ]
  split
  ·have:=d a h;exact⟨this.1,by simp;omega⟩
  ·next p f =>
   split
   ·have:=d a h;exact⟨this.1,by simp;omega⟩
   ·have:=d (a++[p]) (by intro q b;simp at b;rcases b with b | rfl;exact h q b;exact GB f)
    exact⟨this.1,by have e:=this.2;simp at e ⊢;omega⟩
theorem Kb(h:n∈kO L ya):n<L.length:=(CF L ya [] (by simp)).1 n h
theorem FH:(kO S H).length<=H.length:=by have:=(CF S H [] (by simp)).2;unfold kO;simpa using this
set_option maxRecDepth 100000
theorem wC(hp:xE f i N g a x b)(h:kQ f b k zt ys y8)(hl:k.length<=1073741824)(W:jT f z6 S)(X:S.length<=1000000) :
  Calls prog 279 #[.pointer (some ⟨i,0,none⟩),.slice z6.ao S.length z6.cap] f fun e w'=>∃l:Hd,e=.returned (.slice l.ao (kO k S).length l.cap)/\aw w' l (bB (kO k S))/\(∀n,l.blk=some n->f.heap.size<=n)/\ab [] f w':=by
 obtain⟨i0,hi,Y,Z,ac⟩:=Re yH;obtain⟨ao,ad⟩:=z6
 rcases W with rfl | ⟨gv,L,af,t,e1,e2,Q,e4,e5⟩
 ·clear X
  go_enter func279,ntmps279;go_wp2;refine SZ 1 ?_;rw[Tr];go_wp2;go_ret;exact⟨⟨none,0⟩,rfl,QZ _ _ _ _,by intro n s;simp[Hd.blk]at s,ab.refl _ _⟩
 simp only at e1 e4 e5;subst e1;obtain⟨R,HR⟩:∃R,Hid (R=kO k S):=⟨_,rfl⟩
 rw[<-HR.out];go_enter func279,ntmps279;go_wp2
 go_loopg [5,6] S.length (fun gk sv ap wr=>∃(d:Nat) (l:Hd) (c:List Nat),d<=S.length/\gk=S.length-d/\ap=.int .i64 d/\sv=.slice l.ao c.length l.cap/\c.length<=d/\Hid (R=pQ k (S.drop d) c)/\aw wr l (bB c)/\(∀n,l.blk=some n->f.heap.size<=n)/\ab [] f wr)
 case atStart=>exact⟨0,⟨none,0⟩,[],by omega,by omega,rfl,rfl,by simp,HR.out,QZ _ _ _ _,by intro n s;simp[Hd.blk]at s,ab.refl _ _⟩
 case round =>
  obtain⟨d,l,c,hk,hg,rfl,rfl,ag,v,I,H,D⟩:=hrel;have hr:=h.Vb D;obtain⟨p0,p1,p2⟩:=(hp.Vb D).cells
  by_cases B:d<S.length
  ·have c2:wr.cell? ⟨gv,L+d,none⟩=some (.string S[d]):=(aa (D.get e2 (by simp)) (L+d)).trans (Q d S[d] (QP B))
   have an:(d:Int)<S.length:=by omega
   have q:Hid _:=v.out.trans (NV k S c d B);have o:Hid _:=(fun w1 (k1:ab [] wr w1)=>sZ b k zt ys y8 S[d] w1 (hr.Vb k1) hl);clear v Q p0 p1;generalize S[d]=y at *
   rcases hpo:pu k y with _ | p
   ·have z:Hid (R=pQ k (S.drop (d+1)) c):=by show _=_;rw[q.out,hpo]
    rw[hpo]at o;simp only[nB]at o;clear q
    go_upto_region 5 with fail
    go_quiet ((go_at_call 260;exact Rd (o.out _ ((ab.refl [] _).drewN _))))
    go_wp2
    go_roundg (S.length-(d+1))
    case measure=>omega
    case rel=>exact⟨d+1,l,c,by omega,rfl,by go_num,rfl,by omega,z.out,I.Vg (fun n s=>((ab.refl [] wr).drewN _).block n (I.lt s) (by simp)),H,D.drewN _⟩
   ·rw[hpo]at o
    simp only[nB]at o;have al:(p:Int) ≥ 0:=by omega
    go_upto_region 5 with fail
    go_quiet ((go_at_call 260;exact Rd (o.out _ ((ab.refl [] _).drewN _))))
    obtain⟨M,w⟩:∃M,M=wr.drewN nq:=⟨_,rfl⟩
    rw[<-w];have r:aw M l (bB c):=by rw[w];exact I.Vg (fun n s=>((ab.refl [] wr).drewN _).block n (I.lt s) (by simp))
    have G:ab [] f M:=by rw[w];exact D.drewN _
    clear w
    cases O:jG c p
    ·have z:Hid (R=pQ k (S.drop (d+1)) (c++[p])):=by show _=_;rw[q.out,hpo];simp[O]
     have J:=r.Vg (fun n s=>((ab.refl [] M).alloc (.cells #[.int .i64 p] 3)).block n (r.lt s) (by simp));clear q
     go_upto_region 7 with (go_at_call 280;refine(Ck l c p _ (by exact r) (by omega)).mono ?_;rintro e w7 ⟨rfl,C⟩;rw[C,O])
     go_wp2_with (at_builtin;refine aM _ rfl (.tmp 31) (.tmp 33) 26 rfl i0 (.int .i64 0) 8 l (bB c) underlying26 hi Y Z ac rfl Rc rfl (by exact J) ⟨_,0,none⟩ 1 1 [.int .i64 p] rfl rfl ?d1 ?d2 Rc ?d3 ?d4 ?_)
     case d1=>intro j u P;match j,P with | 0,P=>simp at P;subst P;simp[Addr.add]
     case d2=>intro u hu;simp at hu;subst hu;rfl
     case d3=>simp only[bB];unfold maxLen;omega
     case d4=>simp only[bB];omega
     intro T E w5 K A m;rw[mv c p]at K;have F:=G.alloc (.cells #[.int .i64 p] 3);have V:=F.grown A H
     have ai:f.heap.size<=T:=by
      rcases m with e | e
      ·exact H T e
      ·have:=F.size;simp at e this;omega
     have U:Hid ((bB c).n+1=(c++[p]).length):=by show _=_;simp[bB]
     rw[U.out];clear A m J;go_wp2
     go_roundg (S.length-(d+1))
     case measure=>omega
     case rel=>exact⟨d+1,⟨some ⟨T,0,none⟩,E⟩,c++[p],by omega,rfl,by go_num,rfl,by simp;omega,z.out,K,by intro n s;simp[Hd.blk]at s;omega,V⟩
    ·have z:Hid (R=pQ k (S.drop (d+1)) c):=by show _=_;rw[q.out,hpo];simp[O]
     clear q;go_wp2_with (go_at_call 280;refine(Ck l c p _ (by exact r) (by omega)).mono ?_;rintro e w7 ⟨rfl,C⟩;rw[C,O])
     go_roundg (S.length-(d+1))
     case measure=>omega
     case rel=>exact⟨d+1,l,c,by omega,rfl,by go_num,rfl,by omega,z.out,r,H,G⟩
  ·have z:Hid (c=R):=(v.out.trans (LU k S c d B)).symm
   clear v Q;go_wp2;go_ret;exact⟨l,by rw[<-z.out];rfl,by rw[<-z.out];exact I,H,D⟩
def xH(side:Nat)(ms:List Bool)(ones others:List Nat):Bool:=ones.all (fun i=>others.all (fun j=>eD side ms i j))
theorem M9{side:Nat}{ms:List Bool}(a:d<yu.length)(b:l<yv.length)(h:eD side ms yu[d] yv[l]=false):xH side ms yu yv=false:=by
 cases e:xH side ms yu yv
 ·rfl
 ·unfold xH at e
  rw[Sn]at e;have:=e _ (Rb a);rw[Sn]at this;rw[this _ (Rb b)]at h;cases h
theorem Kx(h:∀i j (a:i<yu.length) (b:j<yv.length),eD n v0 yu[i] yv[j]=true):xH n v0 yu yv=true:=by
 unfold xH;rw[Sn];intro x c;rw[Sn];intro y d;obtain⟨i,a,rfl⟩:=R0 c;obtain⟨j,b,rfl⟩:=R0 d;exact h i j a b
set_option maxRecDepth 512
theorem zD(A:Hd)(d c:List Nat)(w:World)(hp:xE w i N g a x b)(h:kQ w b k zt ys y8)(P:zt.length=k.length*k.length)(Q:k.length<=10000)(T:aw w z6 (bB d))(U:aw w A (bB c))(a1:d.length<=1000000)(a2:c.length<=1000000)(B:∀y∈d,y<k.length)(C:∀y∈c,y<k.length) :
  Calls prog 277 #[.pointer (some ⟨i,0,none⟩),.slice z6.ao d.length z6.cap,.slice A.ao c.length A.cap] w fun e w'=>e=.returned (.bool (xH k.length zt d c))/\∃m,w'=w.drewN m:=by
 go_enter func277,ntmps277;go_wp2
 go_loopg [7] d.length (fun gk f wr=>∃(l m:Nat),l<=d.length/\gk=d.length-l/\f=.int .i64 l/\Hid (∀f j (q:f<d.length) (D:j<c.length),f<l->eD k.length zt d[f] c[j]=true)/\Hid (wr=w.drewN m))
 case atStart=>exact⟨0,0,by omega,by omega,rfl,fun f j q D h=>by omega,rfl⟩
 case round =>
  obtain⟨l,m,hk,hg,rfl,n,F⟩:=hrel
  by_cases v:l<d.length
  ·go_wp2_with fail
   go_loopg [8] c.length (fun M i2 V=>∃(j S:Nat),j<=c.length/\M=c.length-j/\i2=.int .i64 j/\Hid (∀f (q:f<c.length),f<j->eD k.length zt d[l] c[f]=true)/\Hid (V=w.drewN S))
   case atStart=>exact⟨0,m,by omega,by omega,rfl,fun f q h=>by omega,F⟩
   case round =>
    obtain⟨j,S,D,ax,rfl,o,p⟩:=hrel
    by_cases u:j<c.length
    ·have K:ab [] w wr:=by rw[p.out];exact(ab.refl [] _).drewN _
     have hA:=h.Vb K;obtain⟨p0,p1,p2⟩:=(hp.Vb K).cells
     rcases T.Vm with ⟨_,O,_⟩ | ⟨ga,ca,H,ag,I,ai,-⟩
     ·have:d.length=0:=O
      omega
     rcases U.Vm with ⟨_,O,_⟩ | ⟨gb,cb,J,al,L,an,-⟩
     ·have:c.length=0:=O
      omega
     have d1:wr.cell? ⟨ga,l,none⟩=some (.int .i64 d[l]):=(T.Vg (fun y R=>K.block y (T.lt R) (by simp))).cell H l (.int .i64 d[l]) (jP d l v);have d2:wr.cell? ⟨gb,j,none⟩=some (.int .i64 c[j]):=(U.Vg (fun y R=>K.block y (U.lt R) (by simp))).cell J j (.int .i64 c[j]) (jP c j u);have ap:d.length<=z6.cap:=I;have ar:c.length<=A.cap:=L;have az:(l:Int)<d.length:=by omega
     have aS:(j:Int)<c.length:=by omega
     have x1:=B _ (Rb v);have x2:=C _ (Rb u);have s:Hid _:=M9 (side:=k.length) (ms:=zt) l j v u
     have t:Hid (eD k.length zt d[l] c[j]=true->∀f (q:f<c.length),f<j+1->eD k.length zt d[l] c[f]=true):=by
      intro hh f q aT
      by_cases e:f=j
      ·subst e;exact hh
      ·exact o.out f q (by omega)
     have W:=fun nq=>qh b k zt ys y8 d[l] c[j] (wr.drewN nq) (hA.Vb ((ab.refl [] _).drewN nq)) P Q x1 x2
     obtain⟨ad,Z⟩:=z6;obtain⟨af,ac⟩:=A;simp only at H J;subst H;subst J;clear o hA p0 p1;generalize d[l]=X at *;generalize c[j]=Y at *;have r:Hid _:=W;clear W
     cases G:eD k.length zt X Y
     ·have z:Hid _:=s.out G
      rw[G]at r;clear s t n
      go_upto_region 7 with fail
      go_quiet ((go_at_call 215;exact Rd (r.out _)))
      go_wp2;go_ret;exact⟨aD z.out.symm,_,by rw[p.out];exact Uf _ _ _⟩
     ·have z:Hid _:=t.out G
      rw[G]at r;clear s t
      go_upto_region 7 with fail
      go_quiet ((go_at_call 215;exact Rd (r.out _)))
      go_wp2
      go_roundg (c.length-(j+1))
      case measure=>omega
      case rel=>exact⟨j+1,_,by omega,rfl,by go_num,z.out,by show _=_;rw[p.out];exact Uf _ _ _⟩
    ·have HN:Hid (∀f j (q:f<d.length) (D:j<c.length),f<l+1->eD k.length zt d[f] c[j]=true):=by
      intro f j' q E a0
      by_cases e:f=l
      ·subst e;exact o.out j' E (by omega)
      ·exact n.out f j' q E (by omega)
     clear o n;go_wp2
     go_roundg (d.length-(l+1))
     case measure=>omega
     case rel=>exact⟨l+1,S,by omega,rfl,by go_num,HN,p⟩
  ·have z:Hid (xH k.length zt d c=true):=Kx (fun f j q D=>n.out f j q D (by omega))
   clear n;go_wp2;go_ret;exact⟨aD z.out.symm,m,F.out⟩
structure iA(w:World)(g N:Nat)(F:Nat->List Nat)(K:Nat->Hd):Prop where
 arr:∃arr,w.heap[g]?=some (.cells arr 26 (0,0))/\arr.size=N/\∀n,n<N->arr[n]?=some (.slice (K n).ao (F n).length (K n).cap)
 own:∀n,n<N->aw w (K n) (bB (F n))
 off:∀n,n<N->(K n).blk≠some g
theorem iA.Vb(h:iA T n o y7 y)(q:ab [] T z4):iA z4 n o y7 y:=by
 obtain⟨a,d,e,f⟩:=h.arr;exact⟨⟨a,q.get d (by simp),e,f⟩,fun c b=>(h.own c b).Vg (fun x g=>q.block x ((h.own c b).lt g) (by simp)),h.off⟩
theorem iA.cell(h:iA T n o y7 y)(a:Nat)(e:a<o):T.cell? ⟨n,a,none⟩=some (.slice (y a).ao (y7 a).length (y a).cap):=by
 obtain⟨b,c,f,d⟩:=h.arr;rw[aa c];exact d a e
theorem iA.free(h:iA T n o y7 y)(a:Nat):T.frozen? ⟨n,a,none⟩=false:=by
 obtain⟨b,c,d,e⟩:=h.arr;exact am c a
theorem iA.lt(h:iA T n o y7 y):n<T.heap.size:=by
 obtain⟨a,b,c,d⟩:=h.arr;exact ae b
def Fy(F:Nat->List Nat)(k:Nat)(v:List Nat):Nat->List Nat:=fun n=>if n=k then v else F n
theorem iA.store{k:Nat}(h:iA T n o y7 y)(v:List Nat)(d:Hd)(m:aw T d (bB v))(g:d.blk≠some n) :
  iA (T.setCell ⟨n,k,none⟩ (.slice d.ao v.length d.cap)) n o (Fy y7 k v) (g9 y k d):=by
 obtain⟨i,j,f,l⟩:=h.arr;refine⟨⟨_,ah j _ _,by simpa using f,?_⟩,?_,?_⟩
 ·intro b c
  by_cases a:b=k
  ·subst a
   rw[dh];simp[f,c,Fy]
  ·rw[bU _ _ _ _ a]
   rw[Uk (by omega)];simp only[Fy,if_neg a];exact l b c
 ·intro b c
  by_cases a:b=k
  ·subst a
   rw[dh];simp only[Fy,if_pos];exact m.Vg (fun x e=>Q4 _ _ _ _ (by rintro rfl;exact g e))
  ·rw[bU _ _ _ _ a]
   simp only[Fy,if_neg a];exact(h.own b c).Vg (fun x e=>Q4 _ _ _ _ (by rintro rfl;exact h.off b c e))
 ·intro b c
  by_cases a:b=k
  ·subst a;rw[dh];exact g
  ·rw[bU _ _ _ _ a];exact h.off b c
def jM(vs:List ByteArray)(bs:List (List ByteArray))(k n:Nat):List Nat:=if n<k then kO vs (bs.getD n []) else []
theorem iA.congr{d:Nat->List Nat}(h:iA T n o y7 y)(e:∀a,a<o->y7 a=d a):iA T n o d y:=by
 obtain⟨c,f,g,i⟩:=h.arr;exact⟨⟨c,f,g,fun a b=>by rw[<-e a b];exact i a b⟩,fun a b=>by rw[<-e a b];exact h.own a b,h.off⟩
set_option maxRecDepth 100000
theorem FG(c:List Ex)(w:World)(hp:xE w i N g a x b)(h:kQ w b k zt ys y8)(ac:k.length<=10000)(z:aw w z6 (gn c))(W:c.length<=10000)(y:∀e∈c,jT w e.hd e.xs/\e.xs.length<=10000) :
  Calls prog 276 #[.pointer (some ⟨i,0,none⟩),.slice z6.ao c.length z6.cap] w fun e M=>∃(H:Nat) (K:Nat->Hd),e=.returned (.slice (some ⟨H,0,none⟩) c.length c.length)/\iA M H c.length (jM k (c.map Ex.xs) c.length) K/\ab [] w M:=by
 obtain⟨i0,hi,B,C,D⟩:=Re Oz;have L:=fun w=>dB (P:=prog) w 181 26 i0 _ underlying181 hi B c.length 1 C (by rw[D];omega) (by omega)
 obtain⟨o,j⟩:∃o,o=madeCells (Value.slice none 0 0).cells (c.length*1):=⟨_,rfl⟩
 rw[<-j]at L
 have E:Hid (iA (w.alloc (.cells o 26)) w.heap.size c.length (jM k (c.map Ex.xs) 0) mE):=by
  refine⟨⟨o,QS _ _,by rw[j,Su];omega,?_⟩,?_,fun x _ e=>by simp[mE,Hd.blk]at e⟩
  ·intro x I
   have e:jM k (c.map Ex.xs) 0 x=[]:=by unfold jM;rw[QT (by omega)]
   rw[e,j];exact Ak _ _ _ (by omega)
  ·intro x I
   have e:jM k (c.map Ex.xs) 0 x=[]:=by unfold jM;rw[QT (by omega)]
   rw[e];exact QZ _ _ _ _
 clear j;go_enter func276,ntmps276;go_wp2
 go_loopg [6] c.length (fun gk af wr=>∃(d:Nat) (K:Nat->Hd),d<=c.length/\gk=c.length-d/\af=.int .i64 d/\iA wr w.heap.size c.length (jM k (c.map Ex.xs) d) K/\ab [] w wr)
 case atStart=>exact⟨0,mE,by omega,by omega,rfl,E.out,(ab.refl _ _).alloc _⟩
 case round =>
  obtain⟨d,K,hk,hg,rfl,t,m⟩:=hrel;clear E L
  by_cases f:d<c.length
  ·rcases z.Vm with ⟨_,U,_⟩ | ⟨gb,F,r,-,s,-⟩
   ·have:c.length=0:=U
    omega
   have n:aw wr z6 (gn c):=z.Vg (fun ag hx=>m.block ag (z.lt hx) (by simp));have S:=n.cell r d (v6 c[d]) (sB c d f);have X:c.length<=z6.cap:=s;obtain⟨A,ad⟩:=y c[d] (Rb f);have O:=wC i N g a x b k zt ys y8 c[d].hd c[d].xs wr (hp.Vb m) (h.Vb m) (by omega) (A.Vb m) (by omega)
   have q:Hid (∀x,x<c.length->Fy (jM k (c.map Ex.xs) d) d (kO k c[d].xs) x=jM k (c.map Ex.xs) (d+1) x):=by
    intro x I;unfold Fy jM
    by_cases e:x=d
    ·subst e;simp[f]
    ·rw[QT e]
     by_cases G:x<d
     ·rw[QW G,QW (by omega)]
     ·rw[QT G,QT (by omega)]
   unfold v6 at S;obtain⟨ao,R⟩:=z6;simp only at r;subst r;have Z:=t.lt;clear n;generalize c[d]=T at *;go_wp2_with fail;refine O.mono ?_;rintro e w2 ⟨Y,rfl,o2,n2,J⟩;have l:=t.Vb J;have c2:=l.cell d f;have f2:=l.free;have Q:Hid _:=((l.store (k:=d) (kO k T.xs) Y o2 (fun e=>by have:=n2 _ e;omega)).congr q.out);have V:=m.size;have u:=(m.trans J);have p:Hid (∀v,ab [] w (w2.setCell ⟨w.heap.size,d,none⟩ v)):=fun v=>u.setCell (QV (QR _)) v
   go_wp2
   go_roundg (c.length-(d+1))
   case measure=>omega
   case rel=>exact⟨d+1,_,by omega,rfl,by go_num,Q.out,p.out _⟩
  ·have e:d=c.length:=by omega
   subst e;go_wp2;go_ret;exact⟨_,K,rfl,t,m⟩
def qR(l:List St)(a:Nat)(S:List ByteArray×List (List ByteArray))(vs:List ByteArray)(ms:List Bool)(i j:Nat):Bool :=
 !(eD S.1.length (fN l a S.1) i j)||xH vs.length ms (kO vs (S.2.getD i [])) (kO vs (S.2.getD j []))
def Cf(l:List St)(a:Nat)(S:List ByteArray×List (List ByteArray))(vs:List ByteArray)(ms:List Bool):Bool :=
 decide (∀i,i<S.1.length->∀j,j<S.1.length->i<j->qR l a S vs ms i j=true)
theorem wB(p:List St)(HR:Nat->Hd)(m:List ByteArray)(s:List Bool)(hv hm:Hd)(o:List ByteArray)(c:List Ex)(H:Nat->Hd)(w:World)(hp:xE w i N g a x b)(h:kQ w b m s hv hm)(ax:s.length=m.length*m.length)(af:m.length<=10000)(hr:dF w N g p HR)(ok:iH p)(M:ma w l o c H)(O:o.length<=10000)(ag:∀e∈c,e.xs.length<=10000) :
  Calls prog 273 #[.pointer (some ⟨i,0,none⟩),.int .i64 d,.pointer (some ⟨l,0,none⟩)] w fun e I=>e=.returned (.bool (Cf p d (o,c.map Ex.xs) m s))/\ab [] w I:=by
 obtain⟨p0,p1,p2⟩:=hp.cells;obtain⟨s0,s1⟩:=M.cells;have E:Hid (c.length=o.length):=M.len;have ap:c.length<=10000:=by rw[E.out];exact O
 obtain⟨R,V⟩:∃R,Hid (R=Cf p d (o,c.map Ex.xs) m s):=⟨_,rfl⟩
 rw[<-V.out];have T:∀u,ab [] w u->aw u (H 0) (aB o):=fun u G=>(M.Vb G).bag.own 0
 have U:∀u,ab [] w u->aw u (H 1) (gn c):=fun u G=>(M.Vb G).bag.own 1
 have P:Hid _:=fun u (G:ab [] w u)=>DH N g d p HR (H 0) o u (hr.Vb G) ok (T u G) O
 have HC:Hid (∀I,ab [] w.drew I->I.cell? ⟨i,0,none⟩=some (.pointer (some ⟨N,g,none⟩))/\I.cell? ⟨l,0,none⟩=some (.slice (H 0).ao o.length (H 0).cap)):=by
  intro I k;exact⟨(hp.Vb ((ab.refl [] w).drew.trans k)).cells.1,(M.Vb ((ab.refl [] w).drew.trans k)).cells.1⟩
 have a7:=M.bag.lt;go_enter func273,ntmps273
 go_upto_region 1 with fail
 go_region_held3 (fun I=>I.cell? ⟨i,0,none⟩=some (.pointer (some ⟨N,g,none⟩))/\I.cell? ⟨l,0,none⟩=some (.slice (H 0).ao o.length (H 0).cap)) (go_keep) (first | (go_at_call 209;refine(P.out _ (by exact(ab.refl [] _).drew)).mono ?_;rintro e u ⟨aT,aS,ar,rfl,A2,-,-,G⟩;obtain⟨x0,x1⟩:=HC.out u G))
 have W:=(ab.refl [] w).drew.trans G;have ad:=M.Vb W;obtain⟨y0,y1⟩:=ad.cells;have WI:=FG i N g a x b m s hv hm (H 1) c u (hp.Vb W) (h.Vb W) af (U u W) ap (fun e he=>⟨(ad.exs e he).view,ag e he⟩);have ac:=ko p d o p.length;go_wp2_with fail;refine WI.mono ?_;rintro e w2 ⟨g2,K,rfl,G2,k2⟩;have ai:=A2.Vb k2;have K2:=W.trans k2;have az:=hp.Vb K2;have L:=h.Vb K2
 have HT:Hid (R=true ↔ ∀f,f<c.length->∀j,j<c.length->f<j->qR p d (o,c.map Ex.xs) m s f j=true):=by
  show _ ↔ _
  rw[V.out,E.out];unfold Cf;rw[decide_eq_true_iff]
 have Q:Hid (∀x,∀a1∈jM m (c.map Ex.xs) c.length x,a1<m.length):=by
  intro x a1 hx;unfold jM at hx
  split at hx
  ·exact Kb hx
  ·cases hx
 have S:Hid (∀x,x<c.length->(jM m (c.map Ex.xs) c.length x).length<=10000):=by
  intro x hn;unfold jM;rw[QW hn];refine Q3 (FH _ _) ?_;rw[QQ];simp[hn];exact ag _ (Rb hn)
 have al:Hid (∀f j,f<c.length->j<c.length->qR p d (o,c.map Ex.xs) m s f j=(!(eD o.length (fN p d o) f j)||xH m.length s (jM m (c.map Ex.xs) c.length f) (jM m (c.map Ex.xs) c.length j))):=by
  intro f j hi hj;unfold qR jM;rw[QW hi,QW hj]
 clear WI T U P HC y0 y1 p0 p1 p2 s0 s1 x0 x1;go_wp2
 go_loopg [9] c.length (fun gk iv wr=>∃(f:Nat),f<=c.length/\gk=c.length-f/\iv=.int .i64 f/\Hid (∀A,A<f->∀n,n<c.length->A<n->qR p d (o,c.map Ex.xs) m s A n=true)/\ab [] w2 wr)
 case atStart=>exact⟨0,by omega,by omega,rfl,fun A a3=>by omega,ab.refl _ _⟩
 case round =>
  obtain⟨f,hi,hg,rfl,r,hK⟩:=hrel
  by_cases z:f<c.length
  ·go_wp2_with fail
   go_loopg [10] (c.length-(f+1)) (fun an jv a0=>∃(j:Nat),f+1<=j/\j<=c.length/\an=c.length-j/\jv=.int .i64 j/\Hid (∀n,f<n->n<j->qR p d (o,c.map Ex.xs) m s f n=true)/\ab [] w2 a0)
   case atStart=>exact⟨f+1,by omega,by omega,by omega,by go_num,fun n h1 L=>by omega,hK⟩
   case round =>
    obtain⟨j,a5,hj,a2,rfl,v,q⟩:=hrel;clear hK
    by_cases y:j<c.length
    ·have hA:=ai.Vb q
     have Z:=G2.Vb q;have d1:=Z.cell f z;have d2:=Z.cell j y;have q1:=S.out f z;have q2:=S.out j y;have a4:(f:Int)<c.length:=by omega
     have a6:(j:Int)<c.length:=by omega
     have AP:=fun nq=>qh aT o (fN p d o) aS ar f j (wr.drewN nq) (hA.Vb ((ab.refl [] _).drewN nq)) ac O (by rw[<-E.out];exact z) (by rw[<-E.out];exact y)
     have AR:=fun nq=>zD i N g a x b m s hv hm (K f) (K j) (jM m (c.map Ex.xs) c.length f) (jM m (c.map Ex.xs) c.length j) (wr.drewN nq) ((az.Vb q).Vb ((ab.refl [] _).drewN nq)) ((L.Vb q).Vb ((ab.refl [] _).drewN nq)) ax af ((Z.Vb ((ab.refl [] _).drewN nq)).own f z) ((Z.Vb ((ab.refl [] _).drewN nq)).own j y) (by omega) (by omega) (Q.out f) (Q.out j)
     have t:Hid _:=al.out f j z y
     have C:Hid (qR p d (o,c.map Ex.xs) m s f j=true->∀n,f<n->n<j+1->qR p d (o,c.map Ex.xs) m s f n=true):=by
      intro hh n h1 L
      by_cases e:n=j
      ·subst e;exact hh
      ·exact v.out n h1 (by omega)
     have F:Hid (qR p d (o,c.map Ex.xs) m s f j=false->R=false):=by
      intro hh
      cases e:R
      ·rfl
      ·have:=HT.out.1 e f z j y (by omega)
       rw[this]at hh;cases hh
     have B:Hid _:=AP;have D:Hid _:=AR;clear AP AR r v Z hA;generalize jM m (c.map Ex.xs) c.length f=X at *;generalize jM m (c.map Ex.xs) c.length j=Y at *
     cases hb:eD o.length (fN p d o) f j
     ·have J:Hid _:=C.out (by rw[t.out,hb];rfl)
      rw[hb]at B;clear F C
      go_upto_region 9 with fail
      go_quiet (first | (go_at_call 215;exact Rd (B.out _)))
      go_wp2
      go_roundg (c.length-(j+1))
      case measure=>omega
      case rel=>exact⟨j+1,by omega,by omega,rfl,by go_num,J.out,q.drewN _⟩
     ·rw[hb]at B
      cases hc:xH m.length s X Y
      ·have J:Hid _:=F.out (by rw[t.out,hb,hc];rfl)
       rw[hc]at D;clear F C
       go_upto_region 9 with fail
       go_quiet (first | (go_at_call 215;exact Rd (B.out _)) | (go_at_call 277;exact UF (D.out _)))
       go_wp2;go_ret;exact⟨aD J.out.symm,K2.trans (q.drewN _)⟩
      ·have J:Hid _:=C.out (by rw[t.out,hb,hc];rfl)
       rw[hc]at D;clear F C
       go_upto_region 9 with fail
       go_quiet (first | (go_at_call 215;exact Rd (B.out _)) | (go_at_call 277;exact UF (D.out _)))
       go_wp2
       go_roundg (c.length-(j+1))
       case measure=>omega
       case rel=>exact⟨j+1,by omega,by omega,rfl,by go_num,J.out,q.drewN _⟩
    ·have HN:Hid (∀A,A<f+1->∀n,n<c.length->A<n->qR p d (o,c.map Ex.xs) m s A n=true):=by
      intro A h1 n L h3
      by_cases e:A=f
      ·subst e;exact v.out n h3 (by omega)
      ·exact r.out A (by omega) n L h3
     clear v r;go_wp2
     go_roundg (c.length-(f+1))
     case measure=>omega
     case rel=>exact⟨f+1,by omega,rfl,by go_num,HN,q⟩
  ·have J:Hid (R=true):=HT.out.2 (fun A h1 n L h3=>r.out A (by omega) n L h3)
   clear r;go_wp2;go_ret;exact⟨aD J.out.symm,K2.trans hK⟩
def Bc(l:List St)(a n:Nat):Option ByteArray:=match l[n]? with
 | some s=>if(s.kind==2)=true/\g7 l n a=true then some (aL s) else none
 | none=>none
def qG(l:List St)(a k:Nat):List ByteArray:=(List.range k).filterMap (Bc l a)
def yi(l:List St)(a:Nat):List ByteArray:=qG l a l.length
theorem Kz(h:l<w.length)(a:(w[l].kind==2)=true)(b:g7 w l d=true):qG w d (l+1)=qG w d l++[aL w[l]]:=by
 unfold qG;rw[R6,SU];simp[Bc,h,a,b]
theorem Nc(h:l<w.length)(a:(w[l].kind==2)=false∨g7 w l d=false):qG w d (l+1)=qG w d l:=by
 unfold qG;rw[R6,SU]
 have:Bc w d l=none:=by
  unfold Bc;rw[QP h];simp only;rw[QT];rintro ⟨b,c⟩
  rcases a with a | a
  ·rw[a]at b;cases b
  ·rw[a]at c;cases c
 simp[this]
theorem Bd:(qG w d l).length<=l:=by
 have:=To (Bc w d) (List.range l);unfold qG;simpa using this
theorem qF(h:dF f a x w v)(ok:iH w) :
  Calls prog 208 #[.pointer (some ⟨a,x,none⟩),.int .i64 b] f fun e w'=>∃d:Hd,e=.returned (.slice d.ao (yi w b).length d.cap)/\aw w' d (aB (yi w b))/\(∀o,d.blk=some o->f.heap.size<=o)/\ab [] f w':=by
 obtain⟨i0,hi,X,Y,Z⟩:=Re js;have ac:=ok.len;go_enter func208,ntmps208;go_wp2
 go_loopg [5,6] w.length (fun gk sv i wr=>∃(k:Nat) (d:Hd),k<=w.length/\gk=w.length-k/\i=.int .i64 k/\sv=.slice d.ao (qG w b k).length d.cap/\aw wr d (aB (qG w b k))/\(∀o,d.blk=some o->f.heap.size<=o)/\ab [] f wr)
 case atStart=>exact⟨0,⟨none,0⟩,by omega,by omega,rfl,rfl,QZ _ _ _ _,by intro o E;simp[Hd.blk]at E,ab.refl _ _⟩
 case round =>
  obtain⟨k,d,hk,hg,rfl,rfl,U,H,S⟩:=hrel;have N:=h.Vb S;have ad:=Bd w b k
  by_cases g:k<w.length
  ·have ag:=ok.syms k g
   have K:Hid _:=Kz w b k g;have m:Hid _:=Nc w b k g;have P:=mq w[k] (v (10+2*k)) (v (11+2*k));unfold ee at P;have O:Hid _:=P;clear P
   go_upto_region 6 with (first | (go_at_call 80;refine(eM a x w v _ (by exact N)).mono ?_;rintro e wc ⟨rfl,C⟩;rw[C]) | (go_at_call 97;refine(a9 a x k w v _ (by exact N) g).mono ?_;rintro e p ⟨rfl,W⟩;unfold ee))
   obtain⟨l,r⟩:∃l,l=p.alloc (.cells #[.int .i64 w[k].kind,.string w[k].label,.slice (v (10+2*k)).ao w[k].U6.length (v (10+2*k)).cap,.slice (v (11+2*k)).ao w[k].Vh.length (v (11+2*k)).cap,.string w[k].fin.file,.int .i64 w[k].fin.line,.int .i64 w[k].fin.col,.int .i64 w[k].til] 158):=⟨_,rfl⟩
   have A:ab [] wr l:=by rw[r];exact W.alloc _
   have s:l.heap[p.heap.size]?=some (.cells #[.int .i64 w[k].kind,.string w[k].label,.slice (v (10+2*k)).ao w[k].U6.length (v (10+2*k)).cap,.slice (v (11+2*k)).ao w[k].Vh.length (v (11+2*k)).cap,.string w[k].fin.file,.int .i64 w[k].fin.line,.int .i64 w[k].fin.col,.int .i64 w[k].til] 158 (0,0)):=by rw[r];exact QS _ _
   rw[<-r];clear r;have u0:l.cell? ⟨p.heap.size,0,none⟩=some (.int .i64 w[k].kind):=by rw[aa s];rfl
   have u1:l.cell? ⟨p.heap.size,1,none⟩=some (.string w[k].label):=by rw[aa s];rfl
   have u2:l.cell? ⟨p.heap.size,2,none⟩=some (.slice (v (10+2*k)).ao w[k].U6.length (v (10+2*k)).cap):=by rw[aa s];rfl
   have u3:l.cell? ⟨p.heap.size,3,none⟩=some (.slice (v (11+2*k)).ao w[k].Vh.length (v (11+2*k)).cap):=by rw[aa s];rfl
   have u4:l.cell? ⟨p.heap.size,4,none⟩=some (.string w[k].fin.file):=by rw[aa s];rfl
   have u5:l.cell? ⟨p.heap.size,5,none⟩=some (.int .i64 w[k].fin.line):=by rw[aa s];rfl
   have u6:l.cell? ⟨p.heap.size,6,none⟩=some (.int .i64 w[k].fin.col):=by rw[aa s];rfl
   have u7:l.cell? ⟨p.heap.size,7,none⟩=some (.int .i64 w[k].til):=by rw[aa s];rfl
   have B:=N.Vb A;have q:aw l d (aB (qG w b k)):=U.Vg (fun o E=>A.block o (U.lt E) (by simp));have V:=(B.Vn.syms k w[k] (QP g)).view;have z:=S.trans A
   cases h2:(w[k].kind==2)
   ·have t:Hid _:=m.out (Q1 h2)
    clear K m;go_wp2
    go_roundg (w.length-(k+1))
    case measure=>omega
    case rel=>exact⟨k+1,d,by omega,rfl,by go_num,by rw[t.out],by rw[t.out];exact q,H,z⟩
   ·cases L:g7 w k b
    ·have t:Hid _:=m.out (QV L)
     clear K m;go_wp2_with (go_at_call 187;refine(gF a x k b w v _ (by exact B) g).mono ?_;rintro e wd ⟨rfl,D⟩;rw[D,L])
     go_roundg (w.length-(k+1))
     case measure=>omega
     case rel=>exact⟨k+1,d,by omega,rfl,by go_num,by rw[t.out],by rw[t.out];exact q,H,z⟩
    ·have t:Hid _:=K.out h2 L
     clear K m;go_wp2_with (first | (go_at_call 187;refine(gF a x k b w v _ (by exact B) g).mono ?_;rintro e wd ⟨rfl,D⟩;rw[D,L]) | (go_at_call 189;refine(O.out _ (by exact V) (by omega)).mono ?_;rintro e w5 ⟨rfl,k5⟩;have I:=q.Vg (fun o E=>(k5.alloc (.cells #[.string (aL w[k])] 9)).block o (q.lt E) (by simp))) | (at_builtin;refine aM _ rfl (.tmp 26) (.tmp 29) 61 rfl i0 (.string ⟨#[]⟩) 16 d (aB (qG w b k)) underlying61 hi X Y Z rfl Rc rfl (by exact I) ⟨_,0,none⟩ 1 1 [.string (aL w[k])] rfl rfl ?d1 ?d2 Rc ?d3 ?d4 ?_))
     case d1=>intro j u M;match j,M with | 0,M=>simp at M;subst M;simp[Addr.add]
     case d2=>intro u hu;simp at hu;subst hu;rfl
     case d3=>simp only[aB];unfold maxLen;omega
     case d4=>simp only[aB];omega
     intro Q F w6 J y c;rw[dr (qG w b k) (aL w[k]),<-t.out]at J;have G:=(z.trans k5).alloc (.cells #[.string (aL w[k])] 9);have T:=G.grown y H
     have af:f.heap.size<=Q:=by
      rcases c with e | e
      ·exact H Q e
      ·have:=G.size;simp at e this;omega
     have R:Hid ((aB (qG w b k)).n+1=(qG w b (k+1)).length):=by show _=_;rw[t.out];simp[aB]
     rw[R.out];clear y c I;go_wp2
     go_roundg (w.length-(k+1))
     case measure=>omega
     case rel=>exact⟨k+1,⟨some ⟨Q,0,none⟩,F⟩,by omega,rfl,by go_num,rfl,J,by intro o E;simp[Hd.blk]at E;omega,T⟩
  ·have e:k=w.length:=by omega
   subst e;go_wp2_with (go_at_call 80;refine(eM a x w v _ (by exact N)).mono ?_;rintro e wc ⟨rfl,C⟩;rw[C]);go_ret;exact⟨d,rfl,U,H,S⟩
def PH:St:=⟨0,⟨#[]⟩,[],[],⟨⟨#[]⟩,0,0⟩,0⟩
abbrev On:=List ByteArray×List (List ByteArray)
def ov(l:List St):List Nat->List (List ByteArray)->On->Int×On
 | h :: hs,e :: es,S=>if((mW (l.getD h PH) e S).1==0)=true then ov l hs es (mW (l.getD h PH) e S).2 else mW (l.getD h PH) e S
 | _,_,S=>(0,S)
def tI(l:List St)(n:Nat)(vs:List ByteArray)(ms:List Bool)(sy:List ByteArray)(R:Int×On):Int×List ByteArray :=
 if(R.1==0)=true then(if Cf l n R.2 vs ms=true then(0,nY R.2.1 R.2.2 sy) else(9,[])) else(R.1,[])
def iV(l:List St)(n:Nat)(vs:List ByteArray)(ms:List Bool)(th:List (List ByteArray)):Int×List ByteArray :=
 if th.length<(aK l n).length then(6,[])
 else tI l n vs ms (l.getD n PH).U6 (ov l (aK l n) (th.drop (th.length-(aK l n).length)) ([],[]))
theorem zV(h:l<w.length):w.getD l PH=w[l]:=by rw[QQ,QP h];rfl
theorem Ih(S:On)(i:Nat)(a:i<yr.length)(b:i<z5.length)(c:yr[i]<w.length) :
  ov w (yr.drop i) (z5.drop i) S=if((mW w[yr[i]] z5[i] S).1==0)=true then ov w (yr.drop (i+1)) (z5.drop (i+1)) (mW w[yr[i]] z5[i] S).2 else mW w[yr[i]] z5[i] S:=by
 rw[Rf a,Rf b,ov,zV w _ c]
theorem Eb(S:On)(i:Nat)(a:¬i<yr.length):ov w (yr.drop i) z5 S=(0,S):=by
 rw[R8 (by omega)];cases z5 <;> rfl
structure Kt(S:On)(N:Nat):Prop where
 one:S.1.length<=N
 two:∀y∈S.2,y.length<=10000
theorem Nq(S:On)(N:Nat)(h:Kt S N)(b:H.length<=10000):Kt (mW yy H S).2 (N+1):=by
 have c:=h.one;unfold mW
 split
 ·split <;> exact⟨by simp only;omega,h.two⟩
 ·split
  ·exact⟨by simp only;omega,h.two⟩
  ·next x r =>
   split
   ·refine⟨by simp;omega,fun y a=>?_⟩
    simp at a
    rcases a with a | rfl
    ·exact h.two y a
    ·simp at b;omega
   ·exact⟨by simp only;omega,h.two⟩
theorem Iw(k:Nat):∀x∈dG w l k,x<k:=by
 induction k with
 | zero=>intro x a;simp[dG]at a
 | succ k b =>
  intro x a
  cases h:l6 w (f8 w l) l k
  ·rw[tX w l k h]at a
   have:=b x a;omega
  ·rw[wn w l k h]at a
   simp at a
   rcases a with a | rfl
   ·have:=b x a;omega
   ·omega
theorem Ca(h:o∈aK xz n):o<xz.length:=Iw xz n xz.length o h
theorem aw.cutE{l:List Ex}(o:aw T y5 (gn l))(c:Nat)(v:c<=l.length):aw T y5 (gn (l.take c)):=by
 have e:(l.take c).length=c:=by simp;omega
 refine⟨by simp[gn,By],?_⟩
 rcases o.2 with ⟨f,t⟩ | ⟨g,a,b,f,q,r,j,m,n,p⟩
 ·left
  have:l.length=0:=t;have s:l=[]:=Rk this;subst s;simp[gn]at f ⊢;exact f
 ·right
  have k:l.length<=a:=j;refine⟨g,a,b,?_,q,r,?_,m,n,?_⟩
  ·injection f with h u i
   simp only[gn];rw[h,i]
  ·show(l.take c).length<=a
   omega
  ·show b.toList.take ((l.take c).length*1)=By (l.take c)
   have d:b.toList.take (l.length*1)=By l:=p;rw[e];unfold By at d ⊢;rw[UL,<-d,UC]
   congr 1
   omega
def pn(sh th:List Ex):Nat->dN
 | 0=>gn sh
 | 1=>gn th
 | _+2=>gn []
def id(rb ro g n tb:Nat)(sh th:List Ex)(H:Nat->Hd):List Value :=
 [.pointer (some ⟨rb,ro,none⟩),.slice (some ⟨g,0,none⟩) n n,.pointer (some ⟨tb,0,none⟩),.slice (H 0).ao sh.length (H 0).cap,.slice (H 1).ao th.length (H 1).cap]
structure ux(w:World)(b rb ro g n tb:Nat)(sh th:List Ex)(H:Nat->Hd):Prop where
 bag:a8 w b 307 (id rb ro g n tb sh th H) (pn sh th) H
 shs:∀e∈sh,rd w b H e.hd e.xs/\e.xs.length<=32
 ths:∀e∈th,rd w b H e.hd e.xs/\e.xs.length<=32
theorem ux.Vb{b c:List Ex}(h:ux T n o z7 zb y6 yg b c y)(k:ab [] T z4):ux z4 n o z7 zb y6 yg b c y :=
 ⟨h.bag.Vb k,fun e a=>⟨(h.shs e a).1.Vb k,(h.shs e a).2⟩,fun e a=>⟨(h.ths e a).1.Vb k,(h.ths e a).2⟩⟩
theorem ux.ctx{a b:List Ex}(h:ux T n o z7 zb y6 yg a b y):xE T n o z7 zb y6 yg:=⟨_,_,h.bag.blk,rfl,rfl,rfl⟩
theorem ux.cells{g:Nat}{a b:List Ex}(h:ux T n o z7 g zb y6 a b y) :
  T.cell? ⟨n,3,none⟩=some (.slice (y 0).ao a.length (y 0).cap)/\T.cell? ⟨n,4,none⟩=some (.slice (y 1).ao b.length (y 1).cap):=⟨h.bag.cell 3,h.bag.cell 4⟩
structure DB(w:World)(rb ro g tb:Nat)(l:List St)(HR K:Nat->Hd)(vs:List ByteArray)(ms:List Bool)(hv hm:Hd):Prop where
 recd:dF w rb ro l HR
 ok:iH l
 all:gW w g l l.length K
 ap:kQ w tb vs ms hv hm
 hml:ms.length=vs.length*vs.length
 hvl:vs.length<=10000
theorem DB.Vb{a:Hd}(h:DB T n o z7 zb xz y yt L v0 y5 a)(k:ab [] T z4):DB z4 n o z7 zb xz y yt L v0 y5 a :=
 ⟨h.recd.Vb k,h.ok,h.all.Vb k,h.ap.Vb k,h.hml,h.hvl⟩
structure l9(w0 w:World)(b rb ro g n tb:Nat)(sh th:List Ex)(H:Nat->Hd):Prop where
 ply:ux w b rb ro g n tb sh th H
 kept:ab [] w0 w
 hb:w0.heap.size<=b
 hin:∀x,f9 H x->w0.heap.size<=x
theorem l9.Vb{c:World}{a b:List Ex}(h:l9 T z4 n o z7 zb y6 yg a b y)(k:ab [] z4 c):l9 T c n o z7 zb y6 yg a b y :=
 ⟨h.ply.Vb k,h.kept.trans k,h.hb,h.hin⟩
section
attribute [local go_sem] wa
theorem rd.turned(f:rd T n y y5 L)(t:aA n T y z4 yt):rd z4 n yt y5 L:=by
 refine⟨f.view.keptP t.1 (fun x c=>?_),fun x c=>?_⟩
 ·obtain⟨_,a,b⟩:=f.far x c
  rintro (e | e)
  ·exact a e
  ·exact b e
 ·obtain⟨d,a,b⟩:=f.far x c
  exact⟨QX d t.1.size,a,t.fresh x d b⟩
theorem a8.reset{b:List Value}{a rows':Nat->dN}(h:a8 T n o b a y)(c:Nat)(u:Value)(g:∀i,aw T (y i) (rows' i)) :
  a8 (T.setCell ⟨n,c,none⟩ u) n o (b.set c u) rows' y/\aA n T y (T.setCell ⟨n,c,none⟩ u) y:=by
 obtain⟨d,e⟩:=h.set c u;refine⟨⟨d.blk,fun i=>(g i).Vg (fun k f=>Q4 _ _ _ _ ?_),h.apart,h.off⟩,e⟩;rintro rfl;exact h.off i f
theorem sC:rd M b v ⟨none,0⟩ []:=⟨Q1 rfl,fun x a=>by simp[Hd.blk]at a⟩
theorem yh(K:Nat->Hd)(F:List ByteArray)(C:List Bool)(hv hm:Hd)(D c:List Ex)(H:Nat->Hd)(E:DB yd N g a x w v K F C hv hm)(P:l9 yd M i N g a w.length x D c H)(hn:b<w.length)(hA:sM w b=true)(cu:c.length<=2000000) :
  Calls prog 261 #[.pointer (some ⟨i,0,none⟩),.int .i64 b] M fun e t=>∃(a0:List Ex) (y:Ex),
   e=.returned (.tuple #[.slice y.hd.ao y.xs.length y.hd.cap,.int .i64 (iV w b F C (c.map Ex.xs)).1])/\y.xs=(iV w b F C (c.map Ex.xs)).2/\l9 yd t i N g a w.length x D a0 H/\rd t i H y.hd y.xs /\
   (((iV w b F C (c.map Ex.xs)).1==0)=true->a0=c.take (c.length-(aK w b).length))/\a0.length<=c.length:=by
 have Ew:=E.Vb P.kept;have b5:=E.ok.len;obtain⟨p0,p1,p2⟩:=P.ply.ctx.cells;obtain⟨p3,p4⟩:=P.ply.cells;have bl:lO w w.length b=aK w b:=by unfold lO;rw[QW ⟨hn,hA⟩]
 have ca:=Ew.all.cell b hn;have oa:=Ew.all.own b hn;rw[bl]at ca oa;obtain⟨AO,a2⟩:∃AO,Hid ((K b).ao=AO):=⟨_,rfl⟩
 rw[a2.out]at ca;have cs:(aK w b).length<=w.length:=oy w b w.length;have bj:∀d (hi:d<(aK w b).length),(aK w b)[d]<w.length:=fun d hi=>Ca (Rb hi)
 have cq:(b:Int)<w.length:=by omega
 have b4:¬(b:Int) ≥ w.length:=by omega
 clear bl p2 p3
 by_cases hu:c.length<(aK w b).length
 ·have HF:Hid (iV w b F C (c.map Ex.xs)=(6,[])):=by show _=_;unfold iV;rw[Ri,QW hu]
  have b6:(c.length:Int)-(aK w b).length<0:=by omega
  go_enter func261,ntmps261;go_wp2
  exact QY (v:=.tuple #[.slice none 0 0,.int .i64 6]) (by simp[results,results261,go_sem]) rfl
   ⟨c,⟨⟨none,0⟩,[]⟩,by rw[HF.out];rfl,by rw[HF.out],P,sC _ _ _,by rw[HF.out];simp,QR _⟩
 ·obtain⟨f,hf⟩:∃f,c.length-(aK w b).length=f:=⟨_,rfl⟩
  have co:(c.length:Int)-(aK w b).length=(f:Int):=by omega
  have ck:¬(f:Int)<0:=by omega
  obtain⟨RR,a5⟩:∃RR,Hid (RR=ov w (aK w b) ((c.map Ex.xs).drop f) ([],[])):=⟨_,rfl⟩
  have HF:Hid (iV w b F C (c.map Ex.xs)=tI w b F C w[b].U6 RR):=by
   show _=_
   unfold iV;rw[Ri,QT hu,zV w b hn,hf,a5.out]
  rw[hf];have bg:f+(aK w b).length=c.length:=by omega
  have a3:Hid _:=bg;clear hf bg;obtain⟨W,hW⟩:∃W,W=M.alloc (.cells #[.slice none 0 0,.slice none 0 0] 343):=⟨_,rfl⟩
  have kW:ab [] M W:=by rw[hW];exact(ab.refl [] _).alloc _
  have SI:ma W M.heap.size [] [] mE:=by
   rw[hW];refine⟨⟨QS _ _,?_,fun d j _=>Q1 rfl,fun d e=>by simp[mE,Hd.blk]at e⟩,rfl,by simp⟩;intro d
   match d with
   | 0=>exact QZ _ _ _ _
   | 1=>exact QZ _ _ _ _
   | m+2=>exact QZ _ _ _ _
  have HW:Hid _:=hW.symm;clear hW;go_enter func261,ntmps261
  go_upto_region 8 with fail
  rw[HW.out];have PW:=P.Vb kW;clear HW p0 p1 p4 ca;go_wp2
  go_loopg [9] (aK w b).length (fun gk iv wr=>∃(d:Nat) (S:On) (r:List Ex) (Y:Nat->Hd),d<=(aK w b).length/\gk=(aK w b).length-d/\iv=.int .i64 d/\Kt S d/\r.map Ex.xs=S.2/\Hid (RR=ov w ((aK w b).drop d) (((c.map Ex.xs).drop f).drop d) S)/\ma wr M.heap.size S.1 r Y/\(∀h,f9 Y h->M.heap.size<=h)/\(∀e∈r,e.hd.blk≠some i)/\ab [] M wr)
  case atStart=>exact⟨0,([],[]),[],mE,by omega,by omega,rfl,⟨by simp,by simp⟩,rfl,a5.out,SI,fun h l=>by obtain⟨d,hi⟩:=l;simp[mE,Hd.blk]at hi,by simp,kW⟩
  case round =>
   obtain⟨d,S,r,Y,hi,hg,rfl,z,ad,hR,hS,R,ax,Z⟩:=hrel
   by_cases U:d<(aK w b).length
   ·obtain⟨u,S2⟩:=S
    simp only at ad;subst ad;have Pr:=P.Vb Z;have aS:f+d<c.length:=by have:=a3.out;omega
    have oT:aw wr (H 1) (gn c):=Pr.ply.bag.own 1
    rcases oT.Vm with ⟨_,h0,_⟩ | ⟨J,ba,et,-,ar,-⟩
    ·have:c.length=0:=h0
     omega
    have oH:aw wr (K b) (bB (aK w b)):=oa.Vg (fun h l=>Z.block h (oa.lt l) (by simp))
    rcases oH.Vm with ⟨_,h0,_⟩ | ⟨gh,bT,eh,-,bo,-⟩
    ·have:(aK w b).length=0:=h0
     omega
    have ch:=oH.cell eh d (.int .i64 (aK w b)[d]) (jP _ d U);have ct:=oT.cell et (f+d) (v6 c[f+d]) (sB c (f+d) aS);obtain rfl:AO=some ⟨gh,0,none⟩:=a2.out.symm.trans eh;have bd:c.length<=(H 1).cap:=ar;have b0:(aK w b).length<=(K b).cap:=bo;have s:=(P.ply.ths c[f+d] (Rb aS));have af:=bj d U;have I:Hid _:=(hR.out.trans (Ih w (aK w b) ((c.map Ex.xs).drop f) (u,r.map Ex.xs) d U (by simp;omega) af));have e1:((c.map Ex.xs).drop f)[d]'(by simp;omega)=c[f+d].xs:=by simp
    rw[e1]at I;have a1:=Nq w[(aK w b)[d]] c[f+d].xs (u,r.map Ex.xs) d z (by omega);have FT:=fun(w3:World) (A:ab [] wr w3)=>Nr M.heap.size u r Y w[(aK w b)[d]] (v (10+2*(aK w b)[d])) (v (11+2*(aK w b)[d])) c[f+d].hd c[f+d].xs w3 (hS.Vb A) (by have:=z.one;simp only at this;omega) (fun e n=>z.two _ (TV n)) ((((E.Vb (Pr.kept.trans A)).recd.Vn.syms _ w[(aK w b)[d]] (QP af)).view)) (E.ok.syms _ af) ⟨(s.1.Vb (Z.trans A)).view,fun h l=>⟨QX (s.1.far h l).1 (Z.trans A).size,by have:=(s.1.far h l).1;omega,fun hm=>by have:=R h hm;have:=(s.1.far h l).1;omega⟩⟩ (by omega)
    have ST:=fun(w3:World) (A:ab [] wr w3)=>a9 N g (aK w b)[d] w v w3 (E.Vb (Pr.kept.trans A)).recd af
    have p4:=Pr.ply.cells.2;have p0:=Pr.ply.ctx.cells.1;rw[et]at p4
    have O:Hid (∀t,ab [] M t->t.cell? ⟨i,0,none⟩=some (.pointer (some ⟨N,g,none⟩))/\t.cell? ⟨gh,d,none⟩=some (.int .i64 (aK w b)[d])/\t.cell? ⟨i,4,none⟩=some (.slice (some ⟨J,0,none⟩) c.length (H 1).cap)/\t.cell? ⟨J,f+d,none⟩=some (v6 c[f+d])):=by
     intro t k;have P':=P.Vb k;refine⟨P'.ply.ctx.cells.1,(oa.Vg (fun h l=>k.block h (oa.lt l) (by simp))).cell eh d _ (jP _ d U),?_,(P'.ply.bag.own 1).cell et (f+d) (v6 c[f+d]) (sB c (f+d) aS)⟩;rw[<-et];exact P'.ply.cells.2
    have a4:Hid (∀h,(h=M.heap.size∨f9 Y h)->M.heap.size<=h):=by
     rintro h (e | e)
     ·omega
     ·exact R h e
    have L:Hid _:=FT;have a6:Hid _:=ST;have cb:IntKind.i64.wrap ((f:Int)+d)=(f:Int)+d:=by rw[R9];omega
    have b1:(0:Int)<=(f:Int)+d:=by omega
    have b2:(f:Int)+d<c.length:=by omega
    have cx:((f:Int)+d).toNat=f+d:=by omega
    have az:=s.1.far;clear FT ST hR e1 oT oH s et eh;unfold v6 at ct O;generalize c[f+d]=y at *;generalize (aK w b)[d]=aT at *;generalize mW w[aT] y.xs (u,r.map Ex.xs)=Q at *;obtain⟨q,S9⟩:=Q;simp only at I a1 L;have bv:y.hd.blk≠some i:=fun e=>(az i e).2.1 rfl
    cases hq:(q==0)
    ·have bw:(q != 0)=true:=by simp[bne,hq]
     have B:Hid (iV w b F C (c.map Ex.xs)=(q,[])):=by show _=_;rw[HF.out,I.out,QT (by rw[hq];simp)];simp[tI,hq]
     clear I
     go_upto_region 11 with fail
     go_region_held3 (fun t=>t.cell? ⟨i,0,none⟩=some (.pointer (some ⟨N,g,none⟩))/\t.cell? ⟨gh,d,none⟩=some (.int .i64 aT)/\t.cell? ⟨i,4,none⟩=some (.slice (some ⟨J,0,none⟩) c.length (H 1).cap)/\t.cell? ⟨J,f+d,none⟩=some (.slice y.hd.ao y.xs.length y.hd.cap)) (go_keep) (first | (go_at_call 97;refine(a6.out _ (by exact(ab.refl [] _).drew)).mono ?_;rintro e w3 ⟨rfl,A⟩;obtain⟨x0,x1,x2,x3⟩:=O.out w3 (Z.drew.trans A)) | (go_at_call 272;refine(L.out _ (by exact(ab.refl [] _).drew.trans A)).mono ?_;rintro e w9 ⟨an,H9,rfl,a7,ag,T9,V⟩;have K9:=(Z.drew.trans A).ofP T9.1 a4.out;obtain⟨z0,z1,z2,z3⟩:=O.out w9 K9))
     all_goals
      clear z0 z1 z2 z3 x0 x1 x2 x3;go_wp2
      exact QY (v:=.tuple #[.slice none 0 0,.int .i64 q]) (by simp[results,results261,go_sem]) rfl
       ⟨c,⟨⟨none,0⟩,[]⟩,by rw[B.out];rfl,by rw[B.out],P.Vb K9,sC _ _ _,fun hh=>by rw[B.out]at hh;exact absurd (hq.symm.trans hh) (by simp),QR _⟩
    ·have bw:(q != 0)=false:=by simp[bne,hq]
     have B:Hid (RR=ov w ((aK w b).drop (d+1)) (((c.map Ex.xs).drop f).drop (d+1)) S9):=by show _=_;rw[I.out,QW hq]
     clear I
     go_upto_region 11 with fail
     go_region_held3 (fun t=>t.cell? ⟨i,0,none⟩=some (.pointer (some ⟨N,g,none⟩))/\t.cell? ⟨gh,d,none⟩=some (.int .i64 aT)/\t.cell? ⟨i,4,none⟩=some (.slice (some ⟨J,0,none⟩) c.length (H 1).cap)/\t.cell? ⟨J,f+d,none⟩=some (.slice y.hd.ao y.xs.length y.hd.cap)) (go_keep) (first | (go_at_call 97;refine(a6.out _ (by exact(ab.refl [] _).drew)).mono ?_;rintro e w3 ⟨rfl,A⟩;obtain⟨x0,x1,x2,x3⟩:=O.out w3 (Z.drew.trans A)) | (go_at_call 272;refine(L.out _ (by exact(ab.refl [] _).drew.trans A)).mono ?_;rintro e w9 ⟨an,H9,rfl,a7,ag,T9,V⟩;have K9:=(Z.drew.trans A).ofP T9.1 a4.out;obtain⟨z0,z1,z2,z3⟩:=O.out w9 K9))
     all_goals
      have bp:∀h,f9 H9 h->M.heap.size<=h:=fun h l=>by
       rcases T9.2 h l with e | e
       ·exact R h e
       ·exact Q3 (Z.drew.trans A).size e
      have br:∀e∈an,e.hd.blk≠some i:=fun e n=>by
       rcases V e n with q | q
       ·exact ax e q
       ·rw[q];exact bv
      clear z0 z1 z2 z3 x0 x1 x2 x3;go_wp2
      go_roundg ((aK w b).length-(d+1))
      case measure=>omega
      case rel=>exact⟨d+1,S9,an,H9,by omega,rfl,by go_num,a1,ag,B.out,a7,bp,br,K9⟩
   ·obtain⟨u,S2⟩:=S
    simp only at ad;subst ad
    have ac:Hid (iV w b F C (c.map Ex.xs)=tI w b F C w[b].U6 (0,(u,r.map Ex.xs))):=by
     show _=_
     rw[HF.out,hR.out,Eb _ _ _ _ _ U]
    have Pr:=P.Vb Z;have Er:=E.Vb Pr.kept;have bx:=z.one;simp only at bx;have KA:=wB i N g a w.length x b M.heap.size w v F C hv hm u r Y wr Pr.ply.ctx Er.ap E.hml E.hvl Er.recd E.ok hS (by omega) (fun e n=>z.two _ (TV n));clear hR
    cases hk:Cf w b (u,r.map Ex.xs) F C
    ·have B:Hid (iV w b F C (c.map Ex.xs)=(9,[])):=by show _=_;rw[ac.out];simp[tI,hk]
     rw[hk]at KA;clear ac
     go_upto_region 15 with (go_at_call 273;refine KA.mono ?_;rintro e G ⟨rfl,k2⟩)
     go_wp2
     exact QY (v:=.tuple #[.slice none 0 0,.int .i64 9]) (by simp[results,results261,go_sem]) rfl
      ⟨c,⟨⟨none,0⟩,[]⟩,by rw[B.out];rfl,by rw[B.out],Pr.Vb k2,sC _ _ _,by rw[B.out];simp,QR _⟩
    ·have B:Hid (iV w b F C (c.map Ex.xs)=(0,nY u (r.map Ex.xs) w[b].U6)):=by show _=_;rw[ac.out];simp[tI,hk]
     rw[hk]at KA;clear ac
     go_upto_region 16 with (go_at_call 273;refine KA.mono ?_;rintro e G ⟨rfl,k2⟩)
     have p:=Pr.Vb k2;have o:=hS.Vb k2;have p4:=p.ply.cells.2;have y4:=p.ply.bag.free;have cj:=p.ply.bag.lt;have oT:aw G (H 1) (gn c):=p.ply.bag.own 1;have ai:f<=c.length:=by have:=a3.out;omega
     have b3:(f:Int)<=c.length:=by omega
     have cf:M.heap.size > i:=P.ply.bag.lt
     rcases oT.Vm with ⟨e0,h0,-⟩ | ⟨J,ba,et,-,ar,-⟩
     ·have bc:c.length=0:=h0
      have bf:f=0:=by omega
      have al:Hid (Value.slice none 0 0=Value.slice (H 1).ao (c.take f).length (H 1).cap):=by show _=_;rw[e0,bf];rfl
      have cc:Hid _:=e0;rw[e0,bc]at p4;have cp:(f:Int)=0:=by omega
      clear e0 h0 bc
      go_upto_region 17 with fail
      have D5:Hid (a8 (G.setCell ⟨i,4,none⟩ (.slice none 0 0)) i 307 (id N g a w.length x D (c.take f) H) (pn D (c.take f)) H/\aA i G H (G.setCell ⟨i,4,none⟩ (.slice none 0 0)) H):=by
       have q:=p.ply.bag.reset (rows':=pn D (c.take f)) 4 (.slice none 0 0) (by
        intro j
        match j with
        | 0=>exact p.ply.bag.own 0
        | 1=>exact oT.cutE f ai
        | m+2=>exact p.ply.bag.own (m+2))
       have e:(id N g a w.length x D c H).set 4 (.slice none 0 0)=id N g a w.length x D (c.take f) H:=by
        simp only[id,List.set_cons_succ,List.set_cons_zero];rw[al.out]
       rw[e]at q;exact q
      generalize hX:G.setCell ⟨i,4,none⟩ (.slice none 0 0)=X at D5 ⊢;have kX:ab [] yd X:=by rw[<-hX];exact p.kept.setCell (QV P.hb) _
      have PX:l9 yd X i N g a w.length x D (c.take f) H:=⟨⟨D5.out.1,fun e n=>⟨(p.ply.shs e n).1.turned D5.out.2,(p.ply.shs e n).2⟩,fun e n=>⟨(p.ply.ths e (Tb n)).1.turned D5.out.2,(p.ply.ths e (Tb n)).2⟩⟩,kX,P.hb,P.hin⟩;have kb:eK (fun h=>h=i) G X:=by rw[<-hX];exact(eK.refl (fun h=>h=i) G).setCell (Q1 (show i=i from rfl)) _
      have SX:ma X M.heap.size u r Y:=⟨o.bag.keptP kb (by omega) (fun h l=>by have:=R h l;omega),o.len,fun e n=>⟨(o.exs e n).view.keptP kb (fun h l e2=>ax e n (e2 ▸ l)),(o.exs e n).adr,fun h l=>⟨QX ((o.exs e n).far h l).1 kb.size,((o.exs e n).far h l).2⟩⟩⟩;have p0:=PX.ply.ctx.cells.1;have bs:=PX.ply.bag.lt;have T:=fun h (l:f9 H h)=>PX.ply.bag.inlt l
      have bk:=E.ok.syms b hn;have EX:=E.Vb kX;clear hX p4 y4 KA;go_wp2_with (first | (go_at_call 97;refine(a9 N g b w v _ (by exact EX.recd) hn).mono ?_;rintro e w6 ⟨rfl,k6⟩;unfold ee) | (go_at_call 274;refine(pT M.heap.size u r Y (v (10+2*b)) w[b].U6 _ (by exact SX.Vb k6) (by omega) (fun e n=>z.two _ (TV n)) (((EX.Vb k6).recd.Vn.syms b w[b] (QP hn)).view) (by omega)).mono ?_;rintro e w7 ⟨hd,rfl,o7,n7,k7⟩));have bz:=k6.size
      exact QY (v:=.tuple #[.slice hd.ao (nY u (r.map Ex.xs) w[b].U6).length hd.cap,.int .i64 0]) (by simp[results,results261,go_sem]) rfl
       ⟨c.take f,⟨hd,nY u (r.map Ex.xs) w[b].U6⟩,by rw[B.out],by rw[B.out],PX.Vb (k6.trans k7),⟨o7.view,fun h l=>⟨o7.lt l,by have:=n7 h l;omega,fun hm=>by have:=n7 h l;have:=T h hm;omega⟩⟩,fun _=>rfl,by simp;omega⟩
     ·have al:Hid (Value.slice (some ⟨J,0,none⟩) f (H 1).cap=Value.slice (H 1).ao (c.take f).length (H 1).cap):=by show _=_;rw[et];simp;omega
      have bd:c.length<=(H 1).cap:=ar;have cl:(f:Int)<=(H 1).cap:=by omega
      rw[et]at p4;clear et
      go_upto_region 17 with fail
      have D5:Hid (a8 (G.setCell ⟨i,4,none⟩ (.slice (some ⟨J,0,none⟩) f (H 1).cap)) i 307 (id N g a w.length x D (c.take f) H) (pn D (c.take f)) H/\aA i G H (G.setCell ⟨i,4,none⟩ (.slice (some ⟨J,0,none⟩) f (H 1).cap)) H):=by
       have q:=p.ply.bag.reset (rows':=pn D (c.take f)) 4 (.slice (some ⟨J,0,none⟩) f (H 1).cap) (by
        intro j
        match j with
        | 0=>exact p.ply.bag.own 0
        | 1=>exact oT.cutE f ai
        | m+2=>exact p.ply.bag.own (m+2))
       have e:(id N g a w.length x D c H).set 4 (.slice (some ⟨J,0,none⟩) f (H 1).cap)=id N g a w.length x D (c.take f) H:=by
        simp only[id,List.set_cons_succ,List.set_cons_zero];rw[al.out]
       rw[e]at q;exact q
      generalize hX:G.setCell ⟨i,4,none⟩ (.slice (some ⟨J,0,none⟩) f (H 1).cap)=X at D5 ⊢;have kX:ab [] yd X:=by rw[<-hX];exact p.kept.setCell (QV P.hb) _
      have PX:l9 yd X i N g a w.length x D (c.take f) H:=⟨⟨D5.out.1,fun e n=>⟨(p.ply.shs e n).1.turned D5.out.2,(p.ply.shs e n).2⟩,fun e n=>⟨(p.ply.ths e (Tb n)).1.turned D5.out.2,(p.ply.ths e (Tb n)).2⟩⟩,kX,P.hb,P.hin⟩;have kb:eK (fun h=>h=i) G X:=by rw[<-hX];exact(eK.refl (fun h=>h=i) G).setCell (Q1 (show i=i from rfl)) _
      have SX:ma X M.heap.size u r Y:=⟨o.bag.keptP kb (by omega) (fun h l=>by have:=R h l;omega),o.len,fun e n=>⟨(o.exs e n).view.keptP kb (fun h l e2=>ax e n (e2 ▸ l)),(o.exs e n).adr,fun h l=>⟨QX ((o.exs e n).far h l).1 kb.size,((o.exs e n).far h l).2⟩⟩⟩;have p0:=PX.ply.ctx.cells.1;have bs:=PX.ply.bag.lt;have T:=fun h (l:f9 H h)=>PX.ply.bag.inlt l
      have bk:=E.ok.syms b hn;have EX:=E.Vb kX;clear hX p4 y4 KA;go_wp2_with (first | (go_at_call 97;refine(a9 N g b w v _ (by exact EX.recd) hn).mono ?_;rintro e w6 ⟨rfl,k6⟩;unfold ee) | (go_at_call 274;refine(pT M.heap.size u r Y (v (10+2*b)) w[b].U6 _ (by exact SX.Vb k6) (by omega) (fun e n=>z.two _ (TV n)) (((EX.Vb k6).recd.Vn.syms b w[b] (QP hn)).view) (by omega)).mono ?_;rintro e w7 ⟨hd,rfl,o7,n7,k7⟩));have bz:=k6.size
      exact QY (v:=.tuple #[.slice hd.ao (nY u (r.map Ex.xs) w[b].U6).length hd.cap,.int .i64 0]) (by simp[results,results261,go_sem]) rfl
       ⟨c.take f,⟨hd,nY u (r.map Ex.xs) w[b].U6⟩,by rw[B.out],by rw[B.out],PX.Vb (k6.trans k7),⟨o7.view,fun h l=>⟨o7.lt l,by have:=n7 h l;omega,fun hm=>by have:=n7 h l;have:=T h hm;omega⟩⟩,fun _=>rfl,by simp;omega⟩
end
def ju(l:List St)(vs:List ByteArray)(ms:List Bool)(sh th:List (List ByteArray))(s:nF):(Int×List ByteArray)×List (List ByteArray) :=
 if(s.kind==3)=true then(if s.U7<sh.length then((0,sh.getD s.U7 []),th) else((5,[]),th))
 else if sM l s.U7=true then(iV l s.U7 vs ms th,th.take (th.length-(aK l s.U7).length))
 else((0,(l.getD s.U7 PH).U6),th)
theorem Mt(s:nF)(c:List St)(f K:Nat->Hd)(t:List ByteArray)(r:List Bool)(hv V:Hd)(i g:List Ex)(H:Nat->Hd)(E:DB yd x b d l c f K t r hv V)(P:l9 yd M a x b d c.length l i g H)(hn:(s.kind==3)=false->s.U7<c.length)(ba:s.U7<=2000000)(ai:g.length<=2000000) :
  Calls prog 239 #[.pointer (some ⟨a,0,none⟩),.agg #[.int .i64 s.kind,.int .i64 s.U7,.string s.at_.file,.int .i64 s.at_.line,.int .i64 s.at_.col]] M fun e G=>∃(ac:List Ex) (A:Ex),
   e=.returned (.tuple #[.slice A.hd.ao A.xs.length A.hd.cap,.int .i64 (ju c t r (i.map Ex.xs) (g.map Ex.xs) s).1.1])/\A.xs=(ju c t r (i.map Ex.xs) (g.map Ex.xs) s).1.2/\l9 yd G a x b d c.length l i ac H/\rd G a H A.hd A.xs /\
   (((ju c t r (i.map Ex.xs) (g.map Ex.xs) s).1.1==0)=true->ac.map Ex.xs=(ju c t r (i.map Ex.xs) (g.map Ex.xs) s).2)/\ac.length<=g.length:=by
 obtain⟨W,hW⟩:∃W,W=M.alloc (.cells #[.int .i64 s.kind,.int .i64 s.U7,.string s.at_.file,.int .i64 s.at_.line,.int .i64 s.at_.col] 174):=⟨_,rfl⟩
 have kW:ab [] M W:=by rw[hW];exact(ab.refl [] _).alloc _
 have B:W.heap[M.heap.size]?=some (.cells #[.int .i64 s.kind,.int .i64 s.U7,.string s.at_.file,.int .i64 s.at_.line,.int .i64 s.at_.col] 174 (0,0)):=by rw[hW];exact QS _ _
 have HW:Hid _:=hW.symm;have u0:W.cell? ⟨M.heap.size,0,none⟩=some (.int .i64 s.kind):=by rw[aa B];rfl
 have u1:W.cell? ⟨M.heap.size,1,none⟩=some (.int .i64 s.U7):=by rw[aa B];rfl
 have y:=P.Vb kW;have EW:=E.Vb y.kept;obtain⟨p0,p1,p2⟩:=y.ply.ctx.cells;obtain⟨p3,p4⟩:=y.ply.cells;have a5:=y.ply.bag.lt;have bc:=ae B;clear hW
 cases hk:(s.kind==3)
 ·have u:=hn hk
  have Q:Hid (ju c t r (i.map Ex.xs) (g.map Ex.xs) s=if sM c s.U7=true then(iV c s.U7 t r (g.map Ex.xs),(g.map Ex.xs).take (g.length-(aK c s.U7).length)) else((0,c[s.U7].U6),g.map Ex.xs)):=by
   show _=_
   unfold ju;rw[hk,Ri,Ri,zV c _ u];rfl
  have HC:Hid (∀G,ab [] W G->G.cell? ⟨a,0,none⟩=some (.pointer (some ⟨x,b,none⟩))/\G.cell? ⟨M.heap.size,1,none⟩=some (.int .i64 s.U7)):=by
   intro G k;refine⟨(y.Vb k).ply.ctx.cells.1,?_⟩;rw[aa (k.get B (by simp))];rfl
  have af:Hid _:=fun(h:World) (J:ab [] W h)=>a9 x b s.U7 c f h (EW.Vb J).recd u
  have HZ:Hid (∀h,ab [] (W.alloc (.cells #[.int .i64 0,.string ⟨#[]⟩,.slice none 0 0,.slice none 0 0,.string ⟨#[]⟩,.int .i64 0,.int .i64 0,.int .i64 0] 158)).drew h->h.cell? ⟨W.heap.size,0,none⟩=some (.int .i64 0)/\h.cell? ⟨W.heap.size,1,none⟩=some (.string ⟨#[]⟩)/\h.cell? ⟨W.heap.size,2,none⟩=some (.slice none 0 0)/\h.cell? ⟨W.heap.size,3,none⟩=some (.slice none 0 0)/\h.cell? ⟨W.heap.size,4,none⟩=some (.string ⟨#[]⟩)/\h.cell? ⟨W.heap.size,5,none⟩=some (.int .i64 0)/\h.cell? ⟨W.heap.size,6,none⟩=some (.int .i64 0)/\h.cell? ⟨W.heap.size,7,none⟩=some (.int .i64 0)/\∀n,h.frozen? ⟨W.heap.size,n,none⟩=false):=by
   intro h k;have q:=k.get (show(W.alloc (.cells #[.int .i64 0,.string ⟨#[]⟩,.slice none 0 0,.slice none 0 0,.string ⟨#[]⟩,.int .i64 0,.int .i64 0,.int .i64 0] 158)).drew.heap[W.heap.size]?=_ from QS _ _) (by simp);refine⟨?_,?_,?_,?_,?_,?_,?_,?_,fun n=>am q n⟩ <;> (rw[aa q];rfl)
  have a1:W.heap.size≠a:=by omega
  have a2:a≠W.heap.size:=by omega
  have a3:W.heap.size≠M.heap.size:=by omega
  have a4:M.heap.size≠W.heap.size:=by omega
  clear p1 p2 p3 p4;go_enter func239,ntmps239
  go_upto_region 1 with fail
  rw[HW.out]
  go_upto_region 5 with fail
  go_region_held3 (fun G=>G.cell? ⟨a,0,none⟩=some (.pointer (some ⟨x,b,none⟩))/\G.cell? ⟨M.heap.size,1,none⟩=some (.int .i64 s.U7)) (go_keep) (first | (go_at_call 97;refine(af.out _ (by exact(ab.refl [] W).drew)).mono ?_;rintro e h ⟨rfl,J⟩;obtain⟨x0,x1⟩:=HC.out h ((ab.refl [] _).drew.trans J);unfold ee) | (go_at_call 97;refine(af.out _ (by exact((ab.refl [] W).alloc _).drew)).mono ?_;rintro e h ⟨rfl,J⟩;obtain⟨x0,x1⟩:=HC.out h (((ab.refl [] W).alloc _).drew.trans J);obtain⟨q0,q1,q2,q3,q4,q5,q6,q7,qf⟩:=HZ.out h J;unfold ee))
  ·obtain⟨X,I⟩:∃X,X=h.alloc (.cells #[.int .i64 c[s.U7].kind,.string c[s.U7].label,.slice (f (10+2*s.U7)).ao c[s.U7].U6.length (f (10+2*s.U7)).cap,.slice (f (11+2*s.U7)).ao c[s.U7].Vh.length (f (11+2*s.U7)).cap,.string c[s.U7].fin.file,.int .i64 c[s.U7].fin.line,.int .i64 c[s.U7].fin.col,.int .i64 c[s.U7].til] 158):=⟨_,rfl⟩
   have L:ab [] W X:=by rw[I];exact((ab.refl [] _).drew.trans J).alloc _
   have o:X.heap[h.heap.size]?=some (.cells #[.int .i64 c[s.U7].kind,.string c[s.U7].label,.slice (f (10+2*s.U7)).ao c[s.U7].U6.length (f (10+2*s.U7)).cap,.slice (f (11+2*s.U7)).ao c[s.U7].Vh.length (f (11+2*s.U7)).cap,.string c[s.U7].fin.file,.int .i64 c[s.U7].fin.line,.int .i64 c[s.U7].fin.col,.int .i64 c[s.U7].til] 158 (0,0)):=by rw[I];exact QS _ _
   rw[<-I];clear I x0 x1 u0 u1 p0;have m0:X.cell? ⟨h.heap.size,0,none⟩=some (.int .i64 c[s.U7].kind):=by rw[aa o];rfl
   have m1:X.cell? ⟨h.heap.size,1,none⟩=some (.string c[s.U7].label):=by rw[aa o];rfl
   have m2:X.cell? ⟨h.heap.size,2,none⟩=some (.slice (f (10+2*s.U7)).ao c[s.U7].U6.length (f (10+2*s.U7)).cap):=by rw[aa o];rfl
   have m3:X.cell? ⟨h.heap.size,3,none⟩=some (.slice (f (11+2*s.U7)).ao c[s.U7].Vh.length (f (11+2*s.U7)).cap):=by rw[aa o];rfl
   have m4:X.cell? ⟨h.heap.size,4,none⟩=some (.string c[s.U7].fin.file):=by rw[aa o];rfl
   have m5:X.cell? ⟨h.heap.size,5,none⟩=some (.int .i64 c[s.U7].fin.line):=by rw[aa o];rfl
   have m6:X.cell? ⟨h.heap.size,6,none⟩=some (.int .i64 c[s.U7].fin.col):=by rw[aa o];rfl
   have m7:X.cell? ⟨h.heap.size,7,none⟩=some (.int .i64 c[s.U7].til):=by rw[aa o];rfl
   have PX:=y.Vb L;have ax:=ae o;obtain⟨x0,x1⟩:=HC.out X L;have m:Hid _:=z9 c s.U7 u
   cases w:qP c[s.U7].kind
   ·have j:Hid (ju c t r (i.map Ex.xs) (g.map Ex.xs) s=((0,c[s.U7].U6),g.map Ex.xs)):=by show _=_;rw[Q.out,m.out,w];rfl
    clear Q m
    go_upto_region 8 with (go_at_call 160;refine(dc c[s.U7].kind _ _ _ _ _ _ _ _).mono ?_;rintro e O ⟨rfl,F⟩;have R:=F.get o (by simp))
    have az:O.cell? ⟨h.heap.size,2,none⟩=some (.slice (f (10+2*s.U7)).ao c[s.U7].U6.length (f (10+2*s.U7)).cap):=by rw[aa R];rfl
    have N:=E.recd.Vn.syms s.U7 c[s.U7] (QP u);have kk:=(L.trans F);have z:=y.Vb kk;clear m0 m1 m2 m3 m4 m5 m6 m7;go_wp2
    exact QY (v:=.tuple #[.slice (f (10+2*s.U7)).ao c[s.U7].U6.length (f (10+2*s.U7)).cap,.int .i64 0]) (by simp[results,results239,go_sem]) rfl
     ⟨g,⟨f (10+2*s.U7),c[s.U7].U6⟩,by rw[j.out],by rw[j.out],z,⟨N.view.Vb z.kept,fun aS Z=>⟨QX (N.lt Z) z.kept.size,by have:=N.lt Z;have:=P.hb;omega,fun V=>by have:=P.hin aS V;have:=N.lt Z;omega⟩⟩,fun _=>by rw[j.out],QR _⟩
   ·have j:Hid (ju c t r (i.map Ex.xs) (g.map Ex.xs) s=(iV c s.U7 t r (g.map Ex.xs),(g.map Ex.xs).take (g.length-(aK c s.U7).length))):=by show _=_;rw[Q.out,m.out,w];rfl
    have T:sM c s.U7=true:=by rw[m.out,w]
    clear Q m
    go_upto_region 7 with (go_at_call 160;refine(dc c[s.U7].kind _ _ _ _ _ _ _ _).mono ?_;rintro e O ⟨rfl,F⟩)
    obtain⟨y0,y1⟩:=HC.out O (L.trans F);have z:=PX.Vb F;clear m0 m1 m2 m3 m4 m5 m6 m7;go_wp2_with fail;refine(yh yd O a x b d l s.U7 c f K t r hv V i g H E z u T ai).mono ?_;rintro e w6 ⟨ad,p,rfl,D,P6,F6,Y,U⟩;have S:Hid _:=D;clear D;go_wp2
    exact QY (v:=.tuple #[.slice p.hd.ao p.xs.length p.hd.cap,.int .i64 (iV c s.U7 t r (g.map Ex.xs)).1]) (by simp[results,results239,go_sem]) rfl
     ⟨ad,p,by rw[j.out],by rw[j.out];exact S.out,P6,F6,fun hh=>by rw[j.out]at hh ⊢;rw[Y hh,UL],U⟩
  ·obtain⟨X,I⟩:∃X,X=(((((((h.setCell ⟨W.heap.size,0,none⟩ (.int .i64 c[s.U7].kind)).setCell ⟨W.heap.size,1,none⟩ (.string c[s.U7].label)).setCell ⟨W.heap.size,2,none⟩ (.slice (f (10+2*s.U7)).ao c[s.U7].U6.length (f (10+2*s.U7)).cap)).setCell ⟨W.heap.size,3,none⟩ (.slice (f (11+2*s.U7)).ao c[s.U7].Vh.length (f (11+2*s.U7)).cap)).setCell ⟨W.heap.size,4,none⟩ (.string c[s.U7].fin.file)).setCell ⟨W.heap.size,5,none⟩ (.int .i64 c[s.U7].fin.line)).setCell ⟨W.heap.size,6,none⟩ (.int .i64 c[s.U7].fin.col)).setCell ⟨W.heap.size,7,none⟩ (.int .i64 c[s.U7].til):=⟨_,rfl⟩
   have al:=(((ab.refl [] W).alloc _).drew.trans J);have an:=J.get (show(W.alloc (.cells #[.int .i64 0,.string ⟨#[]⟩,.slice none 0 0,.slice none 0 0,.string ⟨#[]⟩,.int .i64 0,.int .i64 0,.int .i64 0] 158)).drew.heap[W.heap.size]?=_ from QS _ _) (by simp);have L:ab [] W X:=by rw[I];exact(((((((al.setCell (QV (QR _)) _).setCell (QV (QR _)) _).setCell (QV (QR _)) _).setCell (QV (QR _)) _).setCell (QV (QR _)) _).setCell (QV (QR _)) _).setCell (QV (QR _)) _).setCell (QV (QR _)) _
   have o:X.heap[W.heap.size]?=some (.cells #[.int .i64 c[s.U7].kind,.string c[s.U7].label,.slice (f (10+2*s.U7)).ao c[s.U7].U6.length (f (10+2*s.U7)).cap,.slice (f (11+2*s.U7)).ao c[s.U7].Vh.length (f (11+2*s.U7)).cap,.string c[s.U7].fin.file,.int .i64 c[s.U7].fin.line,.int .i64 c[s.U7].fin.col,.int .i64 c[s.U7].til] 158 (0,0)):=by
    rw[I,ah (ah (ah (ah (ah (ah (ah (ah an _ _) _ _) _ _) _ _) _ _) _ _) _ _)];rfl
   rw[<-I];clear I x0 x1 u0 u1 p0 q0 q1 q2 q3 q4 q5 q6 q7 qf al an;have m0:X.cell? ⟨W.heap.size,0,none⟩=some (.int .i64 c[s.U7].kind):=by rw[aa o];rfl
   have m1:X.cell? ⟨W.heap.size,1,none⟩=some (.string c[s.U7].label):=by rw[aa o];rfl
   have m2:X.cell? ⟨W.heap.size,2,none⟩=some (.slice (f (10+2*s.U7)).ao c[s.U7].U6.length (f (10+2*s.U7)).cap):=by rw[aa o];rfl
   have m3:X.cell? ⟨W.heap.size,3,none⟩=some (.slice (f (11+2*s.U7)).ao c[s.U7].Vh.length (f (11+2*s.U7)).cap):=by rw[aa o];rfl
   have m4:X.cell? ⟨W.heap.size,4,none⟩=some (.string c[s.U7].fin.file):=by rw[aa o];rfl
   have m5:X.cell? ⟨W.heap.size,5,none⟩=some (.int .i64 c[s.U7].fin.line):=by rw[aa o];rfl
   have m6:X.cell? ⟨W.heap.size,6,none⟩=some (.int .i64 c[s.U7].fin.col):=by rw[aa o];rfl
   have m7:X.cell? ⟨W.heap.size,7,none⟩=some (.int .i64 c[s.U7].til):=by rw[aa o];rfl
   have PX:=y.Vb L;have ax:=ae o;obtain⟨x0,x1⟩:=HC.out X L;have m:Hid _:=z9 c s.U7 u
   cases w:qP c[s.U7].kind
   ·have j:Hid (ju c t r (i.map Ex.xs) (g.map Ex.xs) s=((0,c[s.U7].U6),g.map Ex.xs)):=by show _=_;rw[Q.out,m.out,w];rfl
    clear Q m
    go_upto_region 8 with (go_at_call 160;refine(dc c[s.U7].kind _ _ _ _ _ _ _ _).mono ?_;rintro e O ⟨rfl,F⟩;have R:=F.get o (by simp))
    have az:O.cell? ⟨W.heap.size,2,none⟩=some (.slice (f (10+2*s.U7)).ao c[s.U7].U6.length (f (10+2*s.U7)).cap):=by rw[aa R];rfl
    have N:=E.recd.Vn.syms s.U7 c[s.U7] (QP u);have kk:=(L.trans F);have z:=y.Vb kk;clear m0 m1 m2 m3 m4 m5 m6 m7;go_wp2
    exact QY (v:=.tuple #[.slice (f (10+2*s.U7)).ao c[s.U7].U6.length (f (10+2*s.U7)).cap,.int .i64 0]) (by simp[results,results239,go_sem]) rfl
     ⟨g,⟨f (10+2*s.U7),c[s.U7].U6⟩,by rw[j.out],by rw[j.out],z,⟨N.view.Vb z.kept,fun aS Z=>⟨QX (N.lt Z) z.kept.size,by have:=N.lt Z;have:=P.hb;omega,fun V=>by have:=P.hin aS V;have:=N.lt Z;omega⟩⟩,fun _=>by rw[j.out],QR _⟩
   ·have j:Hid (ju c t r (i.map Ex.xs) (g.map Ex.xs) s=(iV c s.U7 t r (g.map Ex.xs),(g.map Ex.xs).take (g.length-(aK c s.U7).length))):=by show _=_;rw[Q.out,m.out,w];rfl
    have T:sM c s.U7=true:=by rw[m.out,w]
    clear Q m
    go_upto_region 7 with (go_at_call 160;refine(dc c[s.U7].kind _ _ _ _ _ _ _ _).mono ?_;rintro e O ⟨rfl,F⟩)
    obtain⟨y0,y1⟩:=HC.out O (L.trans F);have z:=PX.Vb F;clear m0 m1 m2 m3 m4 m5 m6 m7;go_wp2_with fail;refine(yh yd O a x b d l s.U7 c f K t r hv V i g H E z u T ai).mono ?_;rintro e w6 ⟨ad,p,rfl,D,P6,F6,Y,U⟩;have S:Hid _:=D;clear D;go_wp2
    exact QY (v:=.tuple #[.slice p.hd.ao p.xs.length p.hd.cap,.int .i64 (iV c s.U7 t r (g.map Ex.xs)).1]) (by simp[results,results239,go_sem]) rfl
     ⟨ad,p,by rw[j.out],by rw[j.out];exact S.out,P6,F6,fun hh=>by rw[j.out]at hh ⊢;rw[Y hh,UL],U⟩
 ·have a7:decide ((s.U7:Int)<0)=false:=by simp
  by_cases C:s.U7<i.length
  ·have j:Hid (ju c t r (i.map Ex.xs) (g.map Ex.xs) s=((0,i[s.U7].xs),g.map Ex.xs)):=by
    show _=_
    unfold ju;rw[hk,QW rfl,Ri,QW C,QQ];simp[C]
   have ar:decide ((s.U7:Int) ≥ i.length)=false:=by simp;omega
   have a0:(s.U7:Int)<i.length:=by omega
   have oS:aw W (H 0) (gn i):=y.ply.bag.own 0
   rcases oS.Vm with ⟨_,h0,_⟩ | ⟨gs,aT,es,-,ap,-⟩
   ·have:i.length=0:=h0
    omega
   have cs:=oS.cell es s.U7 (v6 i[s.U7]) (sB i s.U7 C);have a6:i.length<=(H 0).cap:=ap;have ag:=(y.ply.shs i[s.U7] (Rb C)).1;rw[es]at p3;unfold v6 at cs;generalize i[s.U7]=A at *;clear p0 p1 p2 p4 oS es;go_enter func239,ntmps239
   go_upto_region 1 with fail
   rw[HW.out]
   go_upto_region 2 with fail
   go_quiet (fail)
   go_upto_region 4 with fail
   go_quiet (fail)
   go_wp2
   exact QY (v:=.tuple #[.slice A.hd.ao A.xs.length A.hd.cap,.int .i64 0]) (by simp[results,results239,go_sem]) rfl
    ⟨g,A,by rw[j.out],by rw[j.out],y.Vb (((ab.refl [] _).drewN _).drewN _),ag.Vb (((ab.refl [] _).drewN _).drewN _),fun _=>by rw[j.out],QR _⟩
  ·have j:Hid (ju c t r (i.map Ex.xs) (g.map Ex.xs) s=((5,[]),g.map Ex.xs)):=by
    show _=_
    unfold ju;rw[hk,QW rfl,Ri,QT C]
   have ar:decide ((s.U7:Int) ≥ i.length)=true:=by simp;omega
   clear p0 p1 p2 p4;go_enter func239,ntmps239
   go_upto_region 1 with fail
   rw[HW.out]
   go_upto_region 2 with fail
   go_quiet (fail)
   go_wp2
   exact QY (v:=.tuple #[.slice none 0 0,.int .i64 5]) (by simp[results,results239,go_sem]) rfl
    ⟨g,⟨⟨none,0⟩,[]⟩,by rw[j.out];rfl,by rw[j.out],y.Vb ((ab.refl [] _).drewN _),sC _ _ _,by rw[j.out];simp,QR _⟩
end Go.Proofs.YtpddjjabfbfifaaGreat
