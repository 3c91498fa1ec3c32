import Derived.Test.YtnbhnocdhbcbcaaGreatG19
namespace Go.Proofs.YtnbhnocdhbcbcaaGreat
open Go.RowKit Tryz
open Value IntKind Ending
set_option maxHeartbeats 0
variable{D o:World}{L:Hd}{M I:Nat}{d:List ByteArray}(T f l:Nat)(b:List Tk)(x:Option Addr)(S:Nat)(w:List Sm)(k:List Nat)(y:Nat)(n:List ByteArray)(i:Nat)(a:List (List ByteArray))(v:Option Addr)(H:Nat)
def fH(T:List Tk)(S:List Sm)(hs:List Nat)(k:Nat):List ByteArray:=((hs.take k).filter (fun j=>((aq S j).k.toList == [36,102]))).map (fun j=>tS T ((aq S j).h+1))
def OO(p:ByteArray×ByteArray):List Value:=[string p.1,string p.2]
theorem MM(p:ByteArray×ByteArray):(OO p).length=2:=rfl
def mC(L:Fs):eB:=kT 114 2 OO L
theorem De(L:Fs)(x:ByteArray×ByteArray):(⟨(mC L).e,(mC L).size,(mC L).n+1,(mC L).xs++OO x⟩:eB)=mC (L++[x]):=jH _ _ _ _ _
def kn(T:List Tk)(S:List Sm)(a:Nat)(V:List ByteArray)(i m:Nat):Fs:=((List.range m).filter (fun j=>decide (i<j)&&dR T S (V.getD i ⟨#[]⟩) (V.getD j ⟨#[]⟩) a)).map (fun j=>(V.getD i ⟨#[]⟩,V.getD j ⟨#[]⟩))
def lC(T:List Tk)(S:List Sm)(a:Nat)(V:List ByteArray)(k:Nat):Fs:=(List.range k).flatMap (fun i=>kn T S a V i V.length)
def lN(T:List Tk)(S:List Sm)(a:Nat):Fs:=lC T S a (fH T S (aZ T S a) (aZ T S a).length) (fH T S (aZ T S a) (aZ T S a).length).length
theorem C0(h:i<H):kn b w y n i (H+1)=kn b w y n i H++(if dR b w (n.getD i ⟨#[]⟩) (n.getD H ⟨#[]⟩) y=true then [(n.getD i ⟨#[]⟩,n.getD H ⟨#[]⟩)] else []):=by
 unfold kn;rw[im,SF,TH h,TP];split <;> rfl
theorem C1:kn b w y n H (H+1)=[]:=by
 unfold kn;rw[UN.2 (fun j a=>by have:=Sd.1 a;simp;omega)];rfl
theorem xv:lC b w y n (H+1)=lC b w y n H++kn b w y n H n.length:=by
 unfold lC;rw[Ty,TI];simp
theorem Fh:(kn b w y n i H).length<=H:=by
 unfold kn;rw[Sn];have:=TQ (fun j=>decide (i<j)&&dR b w (n.getD i ⟨#[]⟩) (n.getD j ⟨#[]⟩) y) (List.range H);rw[Ul]at this;exact this
theorem E0(h:H<k.length):fH b w k (H+1)=fH b w k H++(if((aq w k[H]).k.toList == [36,102])=true then [tS b ((aq w k[H]).h+1)] else []):=by
 unfold fH;rw[Ta h,Tf,SF];congr 1;cases a:((aq w k[H]).k.toList == [36,102])
 ·rw[TR (by rw[a];simp)];rfl
 ·rw[Ue (p:=fun j=>((aq w j).k.toList == [36,102])) a];rfl
theorem Ok:(prog.info? 114).map (fun i=>(i.zero,i.size,i.bytes))=some (some (agg #[string ⟨#[]⟩,string ⟨#[]⟩]),2,32):=by kernel_rfl
set_option maxRecDepth 100000
theorem Fc(b0:World)(hD:fZ b0 f b x S w v H)(ok:oP b w l)(hn:l<w.length)(hE:dG b (aq w l).h) :
  Calls prog 65 #[pointer (some ⟨f,0,none⟩),int i64 l] b0 fun e a=>∃F,e=returned (slice F.ao (lN b w l).length F.cap)/\jd b0 a F (mC (lN b w l)):=by
 have HD:Hid _:=hD;have a5:Hid _:=ok;have cF:=ok.sm;have cL:=ok.tm;have a2:Hid _:=qH f l b x S w v H b0 hD ok hn hE;have db:=mY b w l;have cf:Hid _:=pW b w l;have b5:Hid (lN b w l=lC b w l (fH b w (aZ b w l) (aZ b w l).length) (fH b w (aZ b w l) (aZ b w l).length).length):=rfl;obtain⟨iS,cx,bw,bx,bz⟩:=Sr lA;obtain⟨iP,cu,br,bs,bv⟩:=Sr Ok;clear hD ok;generalize aZ b w l=c at *;go_enter func65,ntmps65;go_upto_region 3 with (go_at_call 63;refine R0 a2.out ?_;rintro e C ⟨h1,rfl,x1⟩)
 have a3:Hid _:=x1.kept;have cb:Hid _:=x1.own.srcN;have b2:Hid (jd C C ⟨none,0⟩ (aG [])):=⟨Sb _ _ _ _,(by intro k hk;cases hk),aa.refl _ _⟩;clear x1 a2;obtain⟨a1,c1⟩:=h1;have cc:Hid (([]:List ByteArray)=fH b w c 0):=by show _=_;simp[fH]
 go_wp2
 go_loopg [5,7] c.length (fun g o i wr=>∃(k:Nat) (F:Hd) (V:List ByteArray),k<=c.length/\g=c.length-k/\o=slice F.ao V.length F.cap/\i=int i64 k/\V.length<=k/\Hid (V=fH b w c k)/\Hid (jd C wr F (aG V)))
 case atStart=>exact⟨0,⟨none,0⟩,[],by omega,rfl,rfl,rfl,by simp,cc,b2⟩
 case round =>
  obtain⟨k,F,V,hk,hg,rfl,rfl,cP,HV,N⟩:=hrel;have Y:Hid _:=a3.out.trans N.out.kept;by_cases ax:k<c.length
  ·have c3:(k:Int)<c.length:=(by omega);have cy:=cf.out c[k] (Sj ax);have ar:c[k]<w.length:=(by omega);obtain⟨gH,eH,ct,cH⟩:=cb.out k c[k] (RQ ax);replace eH:a1=some ⟨gH,0,none⟩:=eH;subst eH;have X:Hid _:=fZ.Wj HD.out a3.out;obtain⟨t0,s0,hb⟩:=X.out.cells;obtain⟨J,rfl,bj,-,-,q2,q3⟩:=X.out.s.2 c[k] w[c[k]] (RQ ar);have B:Hid _:=E0 b w c k ax;rw[<-HV.out,<-bQ w c[k] ar]at B;have b1:Hid ((w[c[k]].k.toList == [36,102])=true->w[c[k]].h+1<b.length):=fun h=>by have:=a5.out.f c[k] cy;rw[<-bQ w c[k] ar]at this;exact this h
   have c2:((c[k]:Nat):Int)<w.length:=(by omega);have c0:(0:Int)<=((c[k]:Nat):Int):=(by omega);generalize w[c[k]].k=sk at *;generalize w[c[k]].h=z at *;generalize c[k]=j at *;have U:Hid (∀a:World,C.heap.size<=a.heap.size->(∀q,q<C.heap.size->a.heap[q]?=C.heap[q]?)->(a.cell? ⟨f,0,none⟩=some (slice x b.length S)/\a.cell? ⟨f,1,none⟩=some (slice (some ⟨J,0,none⟩) w.length H)/\a.cell? ⟨gH,k,none⟩=some (int i64 (j:Int))/\a.cell? ⟨J,j*4+2,none⟩=some (int i64 (z:Int))/\a.cell? ⟨J,j*4+3,none⟩=some (string sk))/\f<a.heap.size/\J<a.heap.size/\gH<a.heap.size):=fun a hz d =>
    ⟨⟨by rw[Sh (d f hb)];exact t0,by rw[Sh (d f hb)];exact s0,by rw[Sh (d gH ct)];exact cH,by rw[Sh (d J bj)];exact q2,by rw[Sh (d J bj)];exact q3⟩,by omega,by omega,by omega⟩
   clear t0 s0 q2 q3 cH;have ca:Hid (∀q,q<C.heap.size->wr.heap[q]?=C.heap[q]?):=fun q d=>N.out.kept.block q d (by simp);obtain⟨⟨t0,s0,cH,q2,q3⟩,be,R,Q⟩:=U.out wr N.out.kept.size ca.out;cases h1:(sk.toList == [36,102])
   ·have E:Hid (V=fH b w c (k+1)):=(by have:=B.out;rw[h1,RU (by simp),Su]at this;exact this.symm);(go_upto_region 6 with fail);go_quiet (fail);have r:Hid _:=N.out.Wj ((aa.refl [] wr).drewN nq);go_wp2;go_roundg (c.length-(k+1))
    case measure=>omega
    case rel=>exact⟨k+1,F,V,by omega,rfl,rfl,by go_num,by omega,E,r⟩
   ·have E:Hid (V++[tS b (z+1)]=fH b w c (k+1)):=(by have:=B.out;rw[h1,RY rfl]at this;exact this.symm);have cs:=b1.out h1;obtain⟨O,rfl,bf,u0,-⟩:=X.out.t.2 (z+1) _ (iK b (z+1) cs);replace u0:C.cell? ⟨O,(z+1)*5,none⟩=some (string (tS b (z+1))):=u0;generalize tS b (z+1)=bT at *;have a0:Hid (∀a:World,(∀q,q<C.heap.size->a.heap[q]?=C.heap[q]?)->a.cell? ⟨O,(z+1)*5,none⟩=some (string bT)):=fun a d=>by rw[Sh (d O bf)];exact u0
    have cR:(z:Int)+1<b.length:=(by omega);have c9:IntKind.i64.wrap ((z:Int)+1)=(z:Int)+1:=(by rw[TE];omega);have c8:((z:Int)+1).toNat=z+1:=(by omega);have c7:(0:Int)<=(z:Int)+1:=(by omega);(go_upto_region 6 with fail);go_quiet (fail);(go_upto_region 7 with fail);obtain⟨K,a6⟩:∃K,Hid (wr.drewN nq=K):=⟨_,rfl⟩
    rw[a6.out];have k2:aa [] wr K:=by rw[<-a6.out];exact(aa.refl [] wr).drewN nq
    have r:Hid _:=N.out.Wj k2;have ad:Hid (∀q,q<C.heap.size->K.heap[q]?=C.heap[q]?):=fun q d=>r.out.kept.block q d (by simp);clear t0 s0 cH q2 q3 be R Q u0;obtain⟨⟨t0,s0,cH,q2,-⟩,be,R,Q⟩:=U.out K r.out.kept.size ad.out;have u0:=a0.out K ad.out;have cA:O<K.heap.size:=R6 bf r.out.kept.size;have ai:=r.out.own;have cq:Hid ((aG V).n<=900000000):=by show V.length<=_;omega
    have HS:Hid (∀(A:World) (h5:Hd),bI K A F h5->(A.cell? ⟨f,0,none⟩=some (slice (some ⟨O,0,none⟩) b.length S)/\A.cell? ⟨f,1,none⟩=some (slice (some ⟨J,0,none⟩) w.length H)/\A.cell? ⟨gH,k,none⟩=some (int i64 (j:Int))/\A.cell? ⟨J,j*4+2,none⟩=some (int i64 (z:Int))/\A.cell? ⟨O,(z+1)*5,none⟩=some (string bT))):=fun A h5 gr=>by
     have bo:∀q,q<C.heap.size->A.heap[q]?=C.heap[q]?:=fun q d=>by
      rw[gr.kept.block q (R6 d r.out.kept.size) (fun hm=>by have:=N.out.far q (aQ hm);omega)];exact ad.out q d
     obtain⟨⟨y0,y1,y2,y3,-⟩,-⟩:=U.out A (Sc r.out.kept.size gr.kept.size) bo;exact⟨y0,y1,y2,y3,a0.out A bo⟩
    clear k2;go_region_held3 (fun a=>a.cell? ⟨f,0,none⟩=some (slice (some ⟨O,0,none⟩) b.length S)/\a.cell? ⟨f,1,none⟩=some (slice (some ⟨J,0,none⟩) w.length H)/\a.cell? ⟨gH,k,none⟩=some (int i64 (j:Int))/\a.cell? ⟨J,j*4+2,none⟩=some (int i64 (z:Int))/\a.cell? ⟨O,(z+1)*5,none⟩=some (string bT)) (go_keep) ((refine bR K (by rfl) (.tmp 33) (.tmp 53) 61 (by rfl) iS (string ⟨#[]⟩) 16 F (aG V) [string bT] underlying61 cx bw bx bz rfl So (by simp[Act.eval] <;> rfl) ai cq.out (by omega) (by simp[Act.eval]) rfl (by simp[Value.oneCell']) ?_;intro cj bc A az al;obtain⟨y0,y1,y2,y3,y4⟩:=HS.out A _ al));rw[fj]at az;have ac:Hid _:=r.out.Wt al az;clear az al;go_wp2;go_roundg (c.length-(k+1))
    case measure=>omega
    case rel=>exact⟨k+1,⟨cj,bc⟩,V++[bT],by omega,rfl,by simp[aG],by go_num,by simp;omega,E,ac⟩
  ·have e:k=c.length:=(by omega);subst e;have b6:Hid (lN b w l=lC b w l V V.length):=by show _=_;rw[b5.out,HV.out]
   have af:Hid _:=N.out.own.srcX;have a4:Hid (jd wr wr ⟨none,0⟩ (mC [])):=⟨Sb _ _ _ _,(by intro k hk;cases hk),aa.refl _ _⟩;have b3:Hid (([]:Fs)=lC b w l V 0):=(by show _=_;simp[lC]);obtain⟨va,vc⟩:=F;obtain⟨T,ag⟩:∃T,Hid (wr=T):=⟨_,rfl⟩
   rw[ag.out];rw[ag.out]at af a4 Y;clear HV N ag;go_wp2
   go_loopg [8,9] V.length (fun g o i w3=>∃(m:Nat) (h2:Hd) (L:Fs),m<=V.length/\g=V.length-m/\o=slice h2.ao L.length h2.cap/\i=int i64 m/\L.length<=10000*m/\Hid (L=lC b w l V m)/\Hid (jd T w3 h2 (mC L)))
   case atStart=>exact⟨0,⟨none,0⟩,[],by omega,rfl,rfl,rfl,by simp,b3,a4⟩
   case round =>
    obtain⟨m,h2,L,hm,cV,rfl,rfl,hL,HL,a7⟩:=hrel;by_cases bk:m<V.length
    ·have c4:(m:Int)<V.length:=(by omega);have b4:Hid (L=lC b w l V m++kn b w l V m (m+1)):=(by show _=_;rw[C1,Su];exact HL.out);obtain⟨I,eV,bg,cl⟩:=af.out m _ (mO V m bk);replace eV:va=some ⟨I,0,none⟩:=eV;subst eV;go_wp2
     go_loopg [8,10] (V.length-(m+1)) (fun g o i w3=>∃(q:Nat) (P:Hd) (D:Fs),(m<q/\q<=V.length)/\g=V.length-q/\o=slice P.ao D.length P.cap/\i=int i64 q/\D.length<=10000*m+q/\Hid (D=lC b w l V m++kn b w l V m q)/\Hid (jd T w3 P (mC D)))
     case atStart=>exact⟨m+1,h2,L,⟨by omega,by omega⟩,rfl,rfl,by go_num,by omega,b4,a7⟩
     case round =>
      obtain⟨q,P,D,⟨cz,c5⟩,cX,rfl,rfl,cE,Z,G⟩:=hrel;by_cases bl:q<V.length
      ·have c6:(q:Int)<V.length:=(by omega);obtain⟨cB,co,-,ba⟩:=af.out q _ (mO V q bl);cases co
       have B:Hid _:=C0 b w l V m q cz;have aT:Hid (∀wx,aa [] T wx->Calls prog 95 #[pointer (some ⟨f,0,none⟩),string (V.getD m ⟨#[]⟩),string (V.getD q ⟨#[]⟩),int i64 l] wx fun e a=>e=returned (bool (dR b w (V.getD m ⟨#[]⟩) (V.getD q ⟨#[]⟩) l))/\aa [] wx a):=fun wx kx=>wk f l _ _ b x S w v H wx (fZ.Wj HD.out (Y.out.trans kx)) a5.out;have W:Hid (∀a:World,T.heap.size<=a.heap.size->(∀q,q<T.heap.size->a.heap[q]?=T.heap[q]?)->a.cell? ⟨I,m,none⟩=some (string (V.getD m ⟨#[]⟩))/\a.cell? ⟨I,q,none⟩=some (string (V.getD q ⟨#[]⟩))/\I<a.heap.size):=fun a hz d=>⟨by rw[Sh (d I bg)];exact cl,by rw[Sh (d I bg)];exact ba,by omega⟩
       generalize V.getD m ⟨#[]⟩=M at *;generalize V.getD q ⟨#[]⟩=y at *;obtain⟨ap,ch⟩:∃ap,Hid (dR b w M y l=ap):=⟨_,rfl⟩
       rw[ch.out]at aT B;clear ba;obtain⟨v0,v1,bp⟩:=W.out wr G.out.kept.size (fun q d=>G.out.kept.block q d (by simp));(go_upto_region 15 with fail);go_region_with (go_at_call 95;refine(aT.out _ (by exact G.out.kept.drew)).mono ?_;rintro e A ⟨rfl,k5⟩)
       all_goals
        have k6:aa [] wr A:=((aa.refl [] wr).drew).trans k5;have n:Hid _:=G.out.Wj k6;clear k5 k6 v0 v1 bp;cases ap
        ·have E:Hid (D=lC b w l V m++kn b w l V m (q+1)):=(by show _=_;rw[B.out,RU (by simp),Su];exact Z.out);go_wp2;go_roundg (V.length-(q+1))
         case measure=>omega
         case rel=>exact⟨q+1,P,D,⟨by omega,by omega⟩,rfl,rfl,by go_num,by omega,E,n⟩
        ·have E:Hid (D++[(M,y)]=lC b w l V m++kn b w l V m (q+1)):=(by show _=_;rw[B.out,RY rfl,Z.out,TM]);(go_upto_region 17 with fail);obtain⟨v0,v1,bp⟩:=W.out A n.out.kept.size (fun q d=>n.out.kept.block q d (by simp));have ai:=n.out.own;have cp:Hid ((mC D).n<=900000000):=(by show D.length<=_;omega);have s3:Hid (∀u∈([string M,string y]:List Value),u.oneCell'=true):=by intro u hu;simp only[List.mem_cons,List.not_mem_nil,or_false]at hu;rcases hu with rfl | rfl <;> rfl
         have HS:Hid (∀(w6:World) (h6:Hd),bI A w6 P h6->w6.cell? ⟨I,m,none⟩=some (string M)/\w6.cell? ⟨I,q,none⟩=some (string y)):=fun w6 h6 gr=>by
          obtain⟨y0,y1,-⟩:=W.out w6 (Sc n.out.kept.size gr.kept.size) (fun p hp=>by
           rw[gr.kept.block p (R6 hp n.out.kept.size) (fun hm=>by have:=n.out.far p (aQ hm);omega)];exact n.out.kept.block p hp (by simp))
          exact⟨y0,y1⟩
         go_region_held3 (fun a=>a.cell? ⟨I,m,none⟩=some (string M)/\a.cell? ⟨I,q,none⟩=some (string y)) (go_keep) ((refine bR A (by rfl) (.tmp 81) (.tmp 91) 111 (by rfl) iP (agg #[string ⟨#[]⟩,string ⟨#[]⟩]) 32 P (mC D) [string M,string y] underlying111 cu br bs bv rfl VN (by simp[Act.eval] <;> rfl) ai cp.out (by omega) (by simp[Act.eval]) rfl s3.out ?_;intro ck bd w6 aS an;obtain⟨y0,y1⟩:=HS.out w6 _ an));rw[show([string M,string y]:List Value)=OO (M,y) from rfl,De]at aS;have ac:Hid _:=n.out.Wt an aS;clear aS an;go_wp2;go_roundg (V.length-(q+1))
         case measure=>omega
         case rel=>exact⟨q+1,⟨ck,bd⟩,D++[(M,y)],⟨by omega,by omega⟩,rfl,by simp[mC,kT],by go_num,by simp;omega,E,ac⟩
      ·have eq:q=V.length:=(by omega);subst eq;have E:Hid (D=lC b w l V (m+1)):=by show _=_;rw[xv];exact Z.out
       go_wp2;go_roundg (V.length-(m+1))
       case measure=>omega
       case rel=>exact⟨m+1,P,D,by omega,rfl,rfl,by go_num,by omega,E,G⟩
    ·have e:m=V.length:=(by omega);subst e;have E:Hid (lN b w l=L):=by show _=_;rw[b6.out,HL.out]
     go_wp2;go_ret;exact⟨h2,by rw[E.out];rfl,by rw[E.out];exact a7.out.base Y.out⟩
def zq(T:List Tk)(S:List Sm)(hs:List Nat)(M:List (List ByteArray))(V:List ByteArray)(B:List (List ByteArray))(i:Nat):Int :=
 if rA S hs i=true then(if(((M.getD i []).getD 0 ⟨#[]⟩).toList==((a8 T S (hs.getD i 0)).getD 0 ⟨#[]⟩).toList)=true then 0 else 7)
 else if kY (dO V B (a8 T S (hs.getD i 0))) (M.getD i [])=true then 0 else 8
def KR(T:List Tk)(S:List Sm)(a:Nat)(V:List ByteArray)(B:List (List ByteArray))(p:ByteArray×ByteArray):Bool:=pR T S a (dO V B [p.1]) (dO V B [p.2])
def nr(T:List Tk)(S:List Sm)(a c:Nat)(hs:List Nat)(M:List (List ByteArray))(V:List ByteArray)(B:List (List ByteArray)):Int :=
 if(cQ (zq T S hs M V B) hs.length==0)=false then cQ (zq T S hs M V B) hs.length else if(lN T S c).all (KR T S a V B)=true then 0 else 9
theorem qi(x:ByteArray)(N:Nat)(b:∀l∈a,l.length<=N)(c:1<=N):(dO n a [x]).length<=N:=by
 unfold dO;rw[SZ,Vl,Su];unfold uG;split
 ·rw[RT];cases h:a[mP n x]? with
  | none=>simp
  | some l=>exact b l (TG h)
 ·simpa using c
theorem OR(c:∀l∈a,l.length<=H)(d:1<=H)(e:List ByteArray):(dO n a e).length<=H*e.length:=by
 induction e with
 | nil=>exact SE _
 | cons x e g =>
  have f:=qi n a x H c d;have b:dO n a (x :: e)=dO n a [x]++dO n a e:=by unfold dO;simp
  rw[b,R9,SA,Nat.mul_succ];omega
theorem JK(a:n.length<=10000)(k:Nat):(lC b w y n k).length<=10000*k:=by
 induction k with
 | zero=>simp[lC]
 | succ k c =>
  have:=Fh b w y n k n.length;rw[xv,R9];omega
theorem JH(d:H<=10000):(lN b w H).length<=100000000:=by
 have a:=mY b w H;have c:(fH b w (aZ b w H) (aZ b w H).length).length<=(aZ b w H).length:=by
  unfold fH;rw[Sn,Tr];exact TQ _ _
 have:=JK b w H (fH b w (aZ b w H) (aZ b w H).length) (by omega) (fH b w (aZ b w H) (aZ b w H).length).length;unfold lN;omega
theorem Jr(a:List Nat)(bz:Option Addr)(cH:Nat)(A:List Sl)(bc:Option Addr)(cA:Nat)(V:List ByteArray)(Q:Option Addr)(cV:Nat)(B:List Sl)(P:Option Addr)(cB:Nat)(G:World)(hD:fZ G T b x S w v H)(ok:oP b w f)(c6:l<f)(c5:bY (aq w l).k=false)(hH:rI G bz a)(D:∀j∈a,j<f/\bY (aq w j).k=false)(d5:a.length<=10000)(hA:cG G bc 1 FC A)(b0:pu G A)(b1:∀s∈A,jB G s.ao s.L)(d4:a.length<=A.length)(d3:A.length<=100000)(hF:∀i,i<a.length->rA w a i=true->1<(a8 b w (a.getD i 0)).length)(hN:∀s∈A,0<s.L.length/\s.L.length<=10000)(hV:jB G Q V)(hB:cG G P 1 FC B)(b2:pu G B)(c4:V.length<=B.length)(c0:B.length<=100000)(bd:∀s∈B,s.L.length<=10000) :
  Calls prog 179 #[pointer (some ⟨T,0,none⟩),int i64 f,int i64 l,slice bz a.length cH,slice bc A.length cA,agg #[slice Q V.length cV,slice P B.length cB]] G fun e r=>e=returned (int i64 (nr b w f l a (A.map (·.L)) V (B.map (·.L))))/\aa [] G r:=by
 obtain⟨W,HW⟩:∃W,Hid (G.alloc (.cells #[slice Q V.length cV,slice P B.length cB] 271)=W):=⟨_,rfl⟩
 have BW:=fY HW.out;have o:Hid _:=fN HW.out;have hn:=ok.ok.m;have d8:=ok.sm;have d9:=ok.tm;have bj:Hid _:=BW;have HD:Hid _:=hD.Wj o.out;have a6:Hid _:=ok;have HH:Hid _:=hH.Wj o.out;have cl:Hid _:=D;have HA:Hid _:=hA.Wj o.out;have dT:Hid _:=b0.Wj o.out;have cj:Hid (∀s∈A,∀wx,aa [] G wx->jB wx s.ao s.L):=fun s a wx kx=>(b1 s a).Wj kx;have HF:Hid _:=hF;have HN:Hid _:=hN;obtain⟨M,bo⟩:∃M,Hid (A.map (·.L)=M):=⟨_,rfl⟩
 obtain⟨d,aS⟩:∃d,Hid (B.map (·.L)=d):=⟨_,rfl⟩
 have a7:Hid (∀(E:List ByteArray) (ad:Option Addr) (cE:Nat) (wx:World),aa [] G wx->jB wx ad E->E.length<=10000->Calls prog 180 #[agg #[slice Q V.length cV,slice P B.length cB],slice ad E.length cE] wx fun e r=>∃h',e=returned (slice h'.ao (dO V d E).length h'.cap)/\jd wx r h' (aG (dO V d E))):=fun E ad cE wx kx hE hl=>by rw[<-aS.out];exact C4 V Q cV B P cB E ad cE wx (hV.Wj kx) (hB.Wj kx) (b2.Wj kx) c4 c0 hE hl bd
 have U:Hid (∀dz∈d,dz.length<=10000):=fun dz hl=>by
  rw[<-aS.out]at hl;obtain⟨s,a,rfl⟩:=Tw.1 hl;exact bd s a
 have co:Hid (∀k,k<A.length->M.getD k []=(gy A k).L):=fun k hk=>by rw[<-bo.out];exact xj A k hk
 rw[bo.out,aS.out];have cq:Hid _:=Fc T l b x S w v H;have ck:Hid (dG b (aq w l).h):=ok.e l c6 c5;have HR:Hid (nr b w f l a M V d=if(cQ (zq b w a M V d) a.length==0)=false then cQ (zq b w a M V d) a.length else if(lN b w l).all (KR b w f V d)=true then 0 else 9):=rfl;clear hD ok hH D hA b0 b1 hF hN hV hB b2 bd;go_enter func179,ntmps179;go_upto_region 1 with fail
 rw[HW.out];go_wp2
 go_loopg [13] a.length (fun g i wr=>∃k:Nat,k<=a.length/\g=a.length-k/\i=int i64 k/\Hid (cQ (zq b w a M V d) k=0)/\Hid (aa [] W wr))
 case atStart=>exact⟨0,by omega,rfl,rfl,rfl,aa.refl _ _⟩
 case round =>
  obtain⟨k,hk,hg,rfl,HZ,HK⟩:=hrel;have d0:Hid _:=o.out.trans HK.out;by_cases D:k<a.length
  ·have db:(k:Int)<a.length:=(by omega);obtain⟨c9,cb⟩:=cl.out a[k] (Sj D);have Z:a[k]<w.length:=(by omega);have bf:a.getD k 0=a[k]:=(by rw[RT,RQ D];rfl);obtain⟨gH,rfl,c8,cR⟩:=(rI.Wj HH.out HK.out) k a[k] (RQ D);have az:Hid (Calls prog 73 #[pointer (some ⟨T,0,none⟩),int i64 ((a[k]:Nat):Int)] wr fun e r=>∃h',e=returned (slice h'.ao (bq b w[a[k]].h).length h'.cap)/\yP wr r h' (bq b w[a[k]].h)):=l6 T a[k] b x S w _ H wr (fZ.Wj HD.out HK.out) Z (by omega) (by rw[bQ w a[k] Z];exact a6.out.e a[k] c9 cb);have bk:Hid (bq b w[a[k]].h=a8 b w (a.getD k 0)):=(by show _=_;unfold a8;rw[bf,bQ w a[k] Z]);have b4:=lI b w[a[k]].h;rw[bk.out]at az b4;have bs:Hid (rA w a k=(w[a[k]].k.toList == [36,102])):=(by show _=_;unfold rA;rw[bf,bQ w a[k] Z]);have a0:Hid _:=HF.out k D;have ct:Hid (∀r:World,aa [] W r->r.cell? ⟨gH,k,none⟩=some (int i64 ((a[k]:Nat):Int))/\gH<r.heap.size/\∃gs,v=some ⟨gs,0,none⟩/\gs<r.heap.size/\r.cell? ⟨T,1,none⟩=some (slice v w.length H)/\T<r.heap.size/\r.cell? ⟨gs,a[k]*4+3,none⟩=some (string w[a[k]].k)):=fun r kw=>by
    obtain⟨g2,e2,h2,c2⟩:=(rI.Wj HH.out kw) k a[k] (RQ D);cases e2
    have hd:=fZ.Wj HD.out kw;obtain⟨-,s0,hb⟩:=hd.cells;obtain⟨gs,e3,af,-,-,-,q3⟩:=hd.s.2 a[k] w[a[k]] (RQ Z);exact⟨c2,h2,gs,e3,af,s0,hb,q3⟩
   have ag:k<A.length:=(by omega);have c:Hid (zq b w a M V d k=if rA w a k=true then(if(((gy A k).L.getD 0 ⟨#[]⟩).toList==((a8 b w (a.getD k 0)).getD 0 ⟨#[]⟩).toList)=true then 0 else 7) else if kY (dO V d (a8 b w (a.getD k 0))) (gy A k).L=true then 0 else 8):=(by show _=_;unfold zq;rw[co.out k ag]);have C:Hid ((zq b w a M V d k==0)=false->nr b w f l a M V d=zq b w a M V d k):=fun h=>by
    have:=mM HZ.out h D;rw[HR.out,this,RY h]
   have ac:Hid (zq b w a M V d k=0->cQ (zq b w a M V d) (k+1)=0):=fun h=>by rw[cQ,HZ.out];exact h
   rw[bs.out]at c a0;clear bk bs bf cb;have eh:((a[k]:Nat):Int)<w.length:=by omega
   have eg:(0:Int)<=((a[k]:Nat):Int):=(by omega);obtain⟨X,HX⟩:∃X,Hid (a8 b w (a.getD k 0)=X):=⟨_,rfl⟩
   rw[HX.out]at az b4 c a0;generalize w[a[k]].k=sk at *;generalize a[k]=j at *;(go_upto_region 5 with (go_at_call 73;refine R0 az.out ?_;rintro e w1 ⟨h1,rfl,x1⟩));have a2:Hid _:=HK.out.trans x1.kept;have bw:Hid _:=x1.own.srcX;obtain⟨bT,al,gs,rfl,af,s0,b6,q3⟩:=ct.out w1 a2.out;obtain⟨a1,c1⟩:=h1;clear cR c8 x1;have b3:=HN.out (gy A k) (j7 A k ag);have R:Hid _:=cj.out (gy A k) (j7 A k ag);have ax:Hid (∀r:World,aa [] W r->∃gA,bc=some ⟨gA,0,none⟩/\gA<r.heap.size/\r.cell? ⟨gA,k,none⟩=some (slice (gy A k).ao (gy A k).L.length (gy A k).cap)):=fun r kw=>cG.sl (cG.Wj HA.out kw) k ag;have dt:(k:Int)<A.length:=(by omega);generalize gy A k=s at *;obtain⟨dp,ch,sL⟩:=s;simp only at R ax b3 c;obtain⟨c3,d6⟩:=b3;cases hf:(sk.toList == [36,102])
   ·rw[hf,RU (by simp)]at c;go_quiet (fail);obtain⟨O,J⟩:∃O,Hid (w1.drewN nq=O):=⟨_,rfl⟩
    (go_upto_region 8 with fail);rw[J.out];have k2:aa [] w1 O:=by rw[<-J.out];exact(aa.refl [] w1).drewN nq
    have n:Hid _:=a2.out.trans k2;have BR:=n.out.get bj.out (by simp);obtain⟨r0,r1⟩:=Ai BR;have dl:=ae BR;have N:Hid _:=(a7.out X a1 c1 O (o.out.trans n.out) (jB.Wj bw.out k2) (by omega));have dg:=OR V d 10000 U.out (by omega) X;obtain⟨Y,HY⟩:∃Y,Hid (dO V d X=Y):=⟨_,rfl⟩
    rw[HY.out]at N c dg;clear bT al af s0 b6 q3 J;(go_upto_region 9 with (go_at_call 180;refine R0 N.out ?_;rintro e w3 ⟨h3,rfl,x3⟩));have F:Hid _:=n.out.trans x3.kept;obtain⟨gA,rfl,c7,cL⟩:=ax.out w3 F.out;have ba:Hid _:=(Dp Y sL h3.ao dp h3.cap ch w3 x3.own.srcX (R.out w3 (o.out.trans F.out)) (by omega));obtain⟨sm,cF⟩:∃sm,Hid (kY Y sL=sm):=⟨_,rfl⟩
    rw[cF.out]at ba c;clear x3 r0 r1 dl;cases sm
    ·rw[RU (by simp)]at c;have I:Hid _:=(C.out (by rw[c.out];rfl));rw[c.out]at I;go_wp2_with (go_at_call 134;refine R0 ba.out ?_;rintro e w4 ⟨rfl,k4⟩;have u:Hid _:=F.out.trans k4;clear k4);go_ret;exact⟨au I.out.symm,o.out.trans u.out⟩
    ·rw[RY rfl]at c;have I:Hid _:=ac.out c.out;go_wp2_with (go_at_call 134;refine R0 ba.out ?_;rintro e w4 ⟨rfl,k4⟩;have u:Hid _:=F.out.trans k4;clear k4);go_roundg (a.length-(k+1))
     case measure=>omega
     case rel=>exact⟨k+1,by omega,rfl,by go_num,I,u⟩
   ·rw[hf,RY rfl]at c;have eb:=a0.out hf;obtain⟨gX,eX,ca,cX⟩:=bw.out 0 _ (mO X 0 (by omega));replace eX:a1=some ⟨gX,0,none⟩:=eX;subst eX;go_quiet (fail);obtain⟨O,J⟩:∃O,Hid (w1.drewN nq=O):=⟨_,rfl⟩
    (go_upto_region 6 with fail);rw[J.out];have k2:aa [] w1 O:=by rw[<-J.out];exact(aa.refl [] w1).drewN nq
    have n:Hid _:=a2.out.trans k2;obtain⟨gA,rfl,c7,cL⟩:=ax.out O n.out;obtain⟨g0,es,ec,d1⟩:=R.out O (o.out.trans n.out) 0 _ (mO sL 0 c3);subst es;have d2:O.cell? ⟨gX,0,none⟩=some (string (X.getD 0 ⟨#[]⟩)):=(by rw[Sh (k2.block gX ca (by simp))];exact cX);have ds:=R6 ca k2.size;have ea:(0:Int)<X.length:=(by omega);have dv:(0:Int)<sL.length:=(by omega);generalize sL.getD 0 ⟨#[]⟩=ai at *;generalize X.getD 0 ⟨#[]⟩=y at *;clear bT al af s0 b6 q3 J cX k2 nq;cases cf:(ai.toList==y.toList)
    ·rw[cf,RU (by simp)]at c;have I:Hid _:=(C.out (by rw[c.out];rfl));rw[c.out]at I;go_quiet (fail);have u:Hid _:=n.out.trans ((aa.refl [] O).drewN nq);go_wp2;go_ret;exact⟨au I.out.symm,o.out.trans u.out⟩
    ·rw[cf,RY rfl]at c;have I:Hid _:=ac.out c.out;go_quiet (fail);have u:Hid _:=n.out.trans ((aa.refl [] O).drewN nq);go_wp2;go_roundg (a.length-(k+1))
     case measure=>omega
     case rel=>exact⟨k+1,by omega,rfl,by go_num,I,u⟩
  ·have e:k=a.length:=(by omega);subst e;rw[HZ.out,RU (by decide)]at HR;have db:¬(a.length:Int)<a.length:=by omega
   have N:Hid _:=(cq.out wr (fZ.Wj HD.out HK.out) (a6.out.mono (by omega)) (by omega) ck.out);obtain⟨t,br⟩:∃t,Hid (lN b w l=t):=⟨_,rfl⟩
   rw[br.out]at N HR;(go_upto_region 13 with (go_at_call 65;refine R0 N.out ?_;rintro e w2 ⟨h2,rfl,x2⟩));have n:Hid _:=HK.out.trans x2.kept;have cu:Hid _:=x2.own.srcG MM;have d7:t.length<=100000000:=(by rw[<-br.out];exact JH b w l (by omega));obtain⟨ap,cp⟩:=h2;clear x2 N HZ;go_wp2
   go_loopg [18] t.length (fun g i wr=>∃m:Nat,m<=t.length/\g=t.length-m/\i=int i64 m/\Hid (∀q (K:q<t.length),q<m->KR b w f V d t[q]=true)/\Hid (aa [] w2 wr))
   case atStart=>exact⟨0,by omega,rfl,rfl,(fun q _ h=>by omega),aa.refl _ _⟩
   case round =>
    obtain⟨m,hm,ef,rfl,bg,F⟩:=hrel;have u:Hid _:=n.out.trans F.out;by_cases ar:m<t.length
    ·have df:(m:Int)<t.length:=(by omega);obtain⟨gP,eP,be,cP⟩:=cu.out m t[m] (RQ ar);subst eP;have bl:Hid (∀r:World,aa [] w2 r->r.cell? ⟨gP,m*2,none⟩=some (string t[m].1)/\r.cell? ⟨gP,m*2+1,none⟩=some (string t[m].2)/\gP<r.heap.size/\r.cell? ⟨G.heap.size,0,none⟩=some (slice Q V.length cV)/\r.cell? ⟨G.heap.size,1,none⟩=some (slice P B.length cB)/\G.heap.size<r.heap.size):=fun r kw=>by
      have BR:=(n.out.trans kw).get bj.out (by simp);exact⟨by rw[Sh (kw.block gP be (by simp))];exact cP 0 _ rfl,by rw[Sh (kw.block gP be (by simp))];exact cP 1 _ rfl,R6 be kw.size,by rw[aj BR];rfl,by rw[aj BR];rfl,ae BR⟩
     have bp:Hid (KR b w f V d t[m]=pR b w f (dO V d [t[m].1]) (dO V d [t[m].2])):=rfl;have C:Hid (KR b w f V d t[m]=false->nr b w f l a M V d=9):=fun h=>by
      rw[HR.out,RU];rw[Tb];intro b5;have:=b5 t[m] (Sj ar);rw[h]at this;cases this
     have ac:Hid (KR b w f V d t[m]=true->∀q (K:q<t.length),q<m+1->KR b w f V d t[q]=true):=fun h q K h2=>by
      by_cases e:q=m
      ·subst e;exact h
      ·exact bg.out q K (by omega)
     generalize KR b w f V d t[m]=mp at *;generalize t[m].1=ai at *;generalize t[m].2=y at *;clear cP;obtain⟨cx,cy,an,v0,v1,cc⟩:=bl.out wr F.out;have dk:=qi V d ai 10000 U.out (by omega);have ei:=qi V d y 10000 U.out (by omega);have bv:Hid (jB (wr.alloc (.cells #[string ai] 9)).drew (some ⟨wr.heap.size,0,none⟩) [ai]):=by
      intro q z K;have hk:(wr.alloc (.cells #[string ai] 9)).drew.heap[wr.heap.size]?=some (.cells #[string ai] 9):=R2 _ _;refine⟨_,rfl,ae hk,?_⟩;rw[aj hk]
      match q,K with
      | 0,K=>simp at K;subst K;rfl
     (go_upto_region 16 with fail);go_region_with (go_at_call 180;refine(a7.out [ai] (some ⟨wr.heap.size,0,none⟩) 1 _ (by exact((o.out.trans u.out).alloc _).drew) (by exact bv.out) (by simp)).mono ?_;rintro e w5 ⟨h5,rfl,x5⟩)
     all_goals
      have a3:Hid (aa [] w2 w5):=((F.out.alloc _).drew).trans x5.kept;have bx:Hid _:=x5.own.srcX;obtain⟨PX,cs⟩:∃PX,Hid (dO V d [ai]=PX):=⟨_,rfl⟩
      rw[cs.out]at bx dk bp ⊢;have cz:Hid (jB (w5.alloc (.cells #[string y] 9)).drew (some ⟨w5.heap.size,0,none⟩) [y]):=by
       intro q z K;have hk:(w5.alloc (.cells #[string y] 9)).drew.heap[w5.heap.size]?=some (.cells #[string y] 9):=R2 _ _;refine⟨_,rfl,ae hk,?_⟩;rw[aj hk]
       match q,K with
       | 0,K=>simp at K;subst K;rfl
      clear cx cy an v0 v1 cc x5 bv;obtain⟨cx,cy,an,v0,v1,cc⟩:=bl.out w5 a3.out;(go_upto_region 17 with fail);go_region_with (go_at_call 180;refine(a7.out [y] (some ⟨w5.heap.size,0,none⟩) 1 _ (by exact(((o.out.trans n.out).trans a3.out).alloc _).drew) (by exact cz.out) (by simp)).mono ?_;rintro e w6 ⟨h6,rfl,x6⟩)
      all_goals
       have a4:Hid (aa [] w2 w6):=((a3.out.alloc _).drew).trans x6.kept;have aT:Hid _:=(IN T f PX (dO V d [y]) h5.ao h6.ao h5.cap h6.cap b x S w v H w6 (fZ.Wj HD.out (n.out.trans a4.out)) a6.out (jB.Wj bx.out ((((aa.refl [] w5).alloc _).drew).trans x6.kept)) x6.own.srcX (by omega) (by omega));rw[<-bp.out]at aT;clear x6;cases mp
       ·have I:Hid _:=C.out rfl;go_wp2_with (go_at_call 215;refine R0 aT.out ?_;rintro e w7 ⟨rfl,k7⟩;have a5:Hid _:=(n.out.trans a4.out).trans k7;clear k7);go_ret;exact⟨au I.out.symm,o.out.trans a5.out⟩
       ·have I:Hid _:=ac.out rfl;go_wp2_with (go_at_call 215;refine R0 aT.out ?_;rintro e w7 ⟨rfl,k7⟩;have a5:Hid _:=a4.out.trans k7;clear k7);go_roundg (t.length-(m+1))
        case measure=>omega
        case rel=>exact⟨m+1,by omega,rfl,by go_num,I,a5⟩
    ·have em:m=t.length:=(by omega);have I:Hid (nr b w f l a M V d=0):=by
      show _=_;rw[HR.out,RY];rw[Tb];intro p hp;obtain⟨q,K,e⟩:=Tg hp;rw[<-e];exact bg.out q K (by omega)
     have df:¬(m:Int)<t.length:=(by omega);go_wp2;go_ret;exact⟨au I.out.symm,o.out.trans u.out⟩
def ig(T:List Tk)(S:List Sm)(a:Nat)(P:List cW)(i:Nat)(M:List (List ByteArray)):List ByteArray×Int :=
 if(bK P i).ref=-2 then(M.getD (bK P i).back [],0)
 else if ay (aq S (bK P i).ref.toNat).k=false then(if 32<(a8 T S (bK P i).ref.toNat).length then([],10) else(a8 T S (bK P i).ref.toNat,0))
 else if dC P i<0 then([],6)
 else
  let hs:=aZ T S (bK P i).ref.toNat
  let on:=(fJ P i).map (fun q=>M.getD q [])
  let why:=nr T S a (bK P i).ref.toNat hs on (bE T S hs hs.length) (bn S hs on hs.length)
  if(why==0)=false then([],why)
  else if 32<(dO (bE T S hs hs.length) (bn S hs on hs.length) (a8 T S (bK P i).ref.toNat)).length then([],10)
  else(dO (bE T S hs hs.length) (bn S hs on hs.length) (a8 T S (bK P i).ref.toNat),0)
structure oO(w:World)(s:Sl):Prop where
 ok:pH w s
 x:jB w s.ao s.L
 pos:0<s.L.length
 le:s.L.length<=10000
theorem oO.Wj{s:Sl}(h:oO D s)(k:aa [] D o):oO o s:=⟨h.ok.Wj k,h.x.Wj k,h.pos,h.le⟩
def KT(T:List Tk)(S:List Sm)(n:Nat):Prop:=∀j,j<n->(ay (aq S j).k||aF (aq S j).k)=true->0<(a8 T S j).length/\(((aq S j).k.toList == [36,102])=true->1<(a8 T S j).length)
structure Lg(T:List Tk)(S:List Sm)(a:Nat)(P:List cW)(i:Nat):Prop where
 Wu:((bK P i).ref=-2/\(bK P i).back<i)∨∃r,r<a/\(bK P i).ref=(r:Nat)/\(ay (aq S r).k||aF (aq S r).k)=true/\(ay (aq S r).k=true->(bK P i).need=(aZ T S r).length)
theorem zk:∀j∈aZ b w H,j<H/\bY (aq w j).k=false/\aF (aq w j).k=true:=fun j c=>by
 have d:=pW b w H j c;have a:=(SD.1 c).2;unfold tB at a;rw[Sk,SL,Sk]at a;rcases a.2 with h | ⟨h,-⟩
 all_goals
  exact⟨d,fB h (by decide),by unfold aF;rw[h];simp⟩
def Lf(w:World)(A:List Sl)(r:List ByteArray×Int)(e:Ending)(w':World):Prop:=∃s:Sl,e=returned (tuple #[slice s.ao s.L.length s.cap,int i64 r.2])/\s.L=r.1/\((r.2==0)=true->oO w' s)/\(s∈A∨∀q o,s.ao=some ⟨q,o,none⟩->w.heap.size<=q)/\aa [] w w'
theorem Ly(e:L.ao=some ⟨M,I,none⟩):L.blk=some M:=by unfold Hd.blk;rw[e];rfl
theorem qS{A:List Sl}{r:List ByteArray×Int}{e:Ending}(a:r.1=[])(b:(r.2==0)=false)(c:e=returned (tuple #[slice none 0 0,int i64 r.2]))(k:aa [] D o):Lf D A r e o :=
 ⟨⟨none,0,[]⟩,c,a.symm,fun h=>(by rw[b]at h;cases h),RZ (fun q d e=>by cases e),k⟩
theorem jd.sh(a:jd D o L (aG d))(b:0<d.length)(c:d.length<=10000):oO o ⟨L.ao,L.cap,d⟩:=⟨a.sl,a.own.srcX,b,c⟩
theorem yx{α:Type}(f:Nat->α)(a:Nat)(h:a<k.length):(k.take (a+1)).map f=(k.take a).map f++[f k[a]]:=by
 rw[Ta h,SF];rfl
theorem Md{x:ByteArray}(h:aJ d x=false):mP d x=d.length:=by
 refine Mb rfl (fun j a _=>?_);unfold aJ at h;rw[UV]at h;have:=h d[j] (Sj a);simpa using this
theorem OS{B:List (List ByteArray)}{X:List ByteArray}(a:0<X.length)(h:aJ d (X.getD 0 ⟨#[]⟩)=false):0<(dO d B X).length:=by
 cases X with
 | nil=>simp at a
 | cons x X =>
  have e:(x :: X).getD 0 ⟨#[]⟩=x:=rfl;rw[e]at h;unfold dO;rw[SZ,R9];unfold uG;rw[Md h,RU (by omega)];simp;omega
theorem JQ{S:List Sm}{c:List Nat}{a:List (List ByteArray)}(h:∀l∈a,l.length<=I):∀l∈bn S c a M,l.length<=I:=by
 intro l b;unfold bn at b;obtain⟨i,-,rfl⟩:=Tw.1 b;rw[Tc,RT];cases e:a[i]? with
 | none=>simp
 | some m=>have:=h m (TG e);show m.length-1<=I;omega
def PE(T:List Tk)(S:List Sm)(n:Nat):Prop:=∀r,r<n->ay (aq S r).k=true->aJ (bE T S (aZ T S r) (aZ T S r).length) ((a8 T S r).getD 0 ⟨#[]⟩)=false
theorem Kh(P:List cW)(b5:Option Addr)(cP:Nat)(y:Int)(pf:ByteArray)(pl pc:Int)(A:List Sl)(db:Option Addr)(cA:Nat)(p:World)(hD:fZ p T b x S w v H)(ok:oP b w f)(hB:KT b w f)(dv:PE b w f)(hn:f<w.length)(hP:cG p b5 6 lq P)(ds:P.length<=100000000)(a6:NN P)(hi:l<P.length)(dt:Lg b w f P l)(hA:cG p db 1 FC A)(df:∀s∈A,oO p s)(e8:A.length=l) :
  Calls prog 132 #[pointer (some ⟨T,0,none⟩),int i64 f,agg #[slice b5 P.length cP,int i64 y,string pf,int i64 pl,int i64 pc],int i64 l,slice db A.length cA] p fun e w'=>Lf p A (ig b w f P l (A.map (·.L))) e w':=by
 obtain⟨W,HW⟩:∃W,Hid (p.alloc (.cells #[slice b5 P.length cP,int i64 y,string pf,int i64 pl,int i64 pc] 122)=W):=⟨_,rfl⟩
 have BW:=fY HW.out;have cH:Hid _:=fN HW.out;obtain⟨p0,-⟩:=nR BW;have e1:=ae BW;have fp:(l:Int)<P.length:=by omega
 obtain⟨gP,rfl,eP,q0,q1,q2,q3,q4,q5⟩:=cG.step (hP.Wj cH.out) l hi;have HP:Hid _:=hP;have HD:Hid _:=hD;have af:Hid _:=ok;have cx:Hid _:=hB;have er:Hid _:=dv;have HA:Hid _:=hA;have cp:Hid _:=df;have fb:=ok.sm;have fd:=ok.tm;have e7:Hid _:=a6;obtain⟨M,cL⟩:∃M,Hid (A.map (·.L)=M):=⟨_,rfl⟩
 have cR:Hid (∀k,k<A.length->M.getD k []=(gy A k).L):=fun k hk=>by rw[<-cL.out];exact xj A k hk
 rw[cL.out];have d7:Hid _:=um P (some ⟨gP,0,none⟩) cP y pf pl pc ds a6 (l+1) l;have c0:Hid (∀c,cG c (some ⟨gP,0,none⟩) 6 lq P->0<=dC P l->Calls prog 103 #[agg #[slice (some ⟨gP,0,none⟩) P.length cP,int i64 y,string pf,int i64 pl,int i64 pc],int i64 l] c fun e w'=>∃g,e=returned (slice (some ⟨g,0,none⟩) (bK P l).need (bK P l).need)/\n8 w' g (fJ P l)/\aa [] c w'):=fun c h1 h2=>JZ P _ cP y pf pl pc l c ds a6 hi h1 h2;have an:Hid _:=J0 P l;have cX:Hid _:=M1 P l
 have a:Hid (ig b w f P l M=if(bK P l).ref=-2 then(M.getD (bK P l).back [],0)
  else if ay (aq w (bK P l).ref.toNat).k=false then(if 32<(a8 b w (bK P l).ref.toNat).length then([],10) else(a8 b w (bK P l).ref.toNat,0))
  else if dC P l<0 then([],6)
  else
   let i:=aZ b w (bK P l).ref.toNat
   let on:=(fJ P l).map (fun q=>M.getD q [])
   let E:=nr b w f (bK P l).ref.toNat i on (bE b w i i.length) (bn w i on i.length)
   if(E==0)=false then([],E)
   else if 32<(dO (bE b w i i.length) (bn w i on i.length) (a8 b w (bK P l).ref.toNat)).length then([],10)
   else(dO (bE b w i i.length) (bn w i on i.length) (a8 b w (bK P l).ref.toNat),0)):=rfl
 have az:=dt.Wu;have d5:Hid _:=BW;clear dt hD ok hB hP hA df a6 dv;obtain⟨iL,eT,d2,d3,d4⟩:=Sr ED;generalize bK P l=st at *;obtain⟨sr,sb,U,sf,sl,sc⟩:=st;simp only at q0 q1 q2 q3 q4 q5 az a c0 an;obtain⟨W1,a3⟩:∃W1,Hid (W.alloc (.cells #[int i64 sr,int i64 (sb:Int),int i64 (U:Int),string sf,int i64 sl,int i64 sc] 162)=W1):=⟨_,rfl⟩
 have B1:=fY a3.out;have cl:=fN a3.out;have G:Hid _:=cH.out.trans cl;have F:Hid (∀c:World,aa [] W1 c->(c.cell? ⟨W.heap.size,0,none⟩=some (int i64 sr)/\c.cell? ⟨W.heap.size,1,none⟩=some (int i64 (sb:Int))/\W.heap.size<c.heap.size)/\(c.cell? ⟨p.heap.size,0,none⟩=some (slice (some ⟨gP,0,none⟩) P.length cP)/\c.cell? ⟨p.heap.size,1,none⟩=some (int i64 y)/\c.cell? ⟨p.heap.size,2,none⟩=some (string pf)/\c.cell? ⟨p.heap.size,3,none⟩=some (int i64 pl)/\c.cell? ⟨p.heap.size,4,none⟩=some (int i64 pc)/\p.heap.size<c.heap.size)):=fun c kx=>by
  have b1:=kx.get B1 (by simp);have b0:=(cl.trans kx).get d5.out (by simp);exact⟨⟨by rw[aj b1];rfl,by rw[aj b1];rfl,ae b1⟩,by rw[aj b0];rfl,by rw[aj b0];rfl,by rw[aj b0];rfl,by rw[aj b0];rfl,by rw[aj b0];rfl,ae b0⟩
 clear B1 cl BW;obtain⟨⟨K,s1,m⟩,p1,p2,p3,p4,p5,C⟩:=F.out W1 (aa.refl _ _);rcases az with ⟨rfl,fl⟩ | ⟨r,hr,rfl,a7,bc⟩
 ·rw[RY rfl]at a;have ba:sb<A.length:=by omega
  have fi:(sb:Int)<A.length:=by omega
  obtain⟨gA,rfl,eL,b6⟩:=cG.sl (cG.Wj HA.out G.out) sb ba;have HO:Hid _:=(cp.out (gy A sb) (j7 A sb ba)).Wj G.out;have el:Hid (gy A sb∈A):=j7 A sb ba;rw[cR.out sb ba]at a;generalize gy A sb=s at *;obtain⟨N,n,sL⟩:=s;simp only at b6 a;go_enter func132,ntmps132;go_upto_region 1 with fail
  rw[HW.out];go_upto_region 2 with fail
  rw[a3.out];go_wp2;go_ret2;rw[a.out];exact⟨⟨N,n,sL⟩,rfl,rfl,fun _=>HO.out,R4 el.out,G.out⟩
 ·have J:r<w.length:=by omega
  rw[RU (by omega),SO]at a;have ft:(((r:Nat):Int) == -2)=false:=V9 (by omega);have fu:((r:Nat):Int)<w.length:=by omega
  have fs:(0:Int)<=((r:Nat):Int):=by omega
  have z:bY (aq w r).k=false:=by
   unfold ay aF at a7;simp only[Bool.or_eq_true]at a7;rcases a7 with (h | h) | (h | h) <;> exact fB h (by decide)
  have cs:Hid (∀c,aa [] p c->Calls prog 73 #[pointer (some ⟨T,0,none⟩),int i64 ((r:Nat):Int)] c fun e w'=>∃h',e=returned (slice h'.ao (a8 b w r).length h'.cap)/\yP c w' h' (a8 b w r)):=fun c kx=>by
   have:=l6 T r b x S w v H c (fZ.Wj HD.out kx) J (by omega) (by rw[bQ w r J];exact af.out.e r hr z);rw[bQ w r J]at this;exact this
  obtain⟨cc,-⟩:=cx.out r hr a7;have eE:(a8 b w r).length<=b.length:=lI b _;obtain⟨X,HX⟩:∃X,Hid (a8 b w r=X):=⟨_,rfl⟩
  rw[HX.out]at cs a cc eE;have eq:Hid (∀c:World,aa [] p c->∃gs,v=some ⟨gs,0,none⟩/\gs<c.heap.size/\c.cell? ⟨T,1,none⟩=some (slice v w.length H)/\T<c.heap.size/\c.cell? ⟨gs,r*4+3,none⟩=some (string (aq w r).k)):=fun c kx=>by
   have hd:=fZ.Wj HD.out kx;obtain⟨-,K,hb⟩:=hd.cells;obtain⟨gs,e3,cf,-,-,-,q3⟩:=hd.s.2 r w[r] (RQ J);rw[bQ w r J]at q3;exact⟨gs,e3,cf,K,hb,q3⟩
  have ct:Hid _:=cs.out W1 G.out;go_enter func132,ntmps132;go_upto_region 1 with fail
  rw[HW.out];go_upto_region 2 with fail
  rw[a3.out];clear q0 q1 q2 q3 q4 q5 p0 eP e1;go_upto_region 5 with (go_at_call 73;refine R0 ct.out ?_;rintro e w2 ⟨h2,rfl,x2⟩)
  have cF:Hid _:=G.out.trans x2.kept;have c3:Hid _:=x2.kept;have ec:Hid _:=x2.toL;clear x2 K s1 m p1 p2 p3 p4 p5 C;obtain⟨⟨K,s1,m⟩,p1,p2,p3,p4,p5,C⟩:=F.out w2 c3.out;obtain⟨gs,rfl,cf,t0,eH,t1⟩:=eq.out w2 cF.out;obtain⟨sk,c8⟩:∃sk,Hid ((aq w r).k=sk):=⟨_,rfl⟩
  rw[c8.out]at t1 a bc;obtain⟨a5,b3⟩:∃a5,Hid (ay sk=a5):=⟨_,rfl⟩
  have co:Hid (∀c,Calls prog 123 #[string sk] c fun e w'=>e=returned (bool a5)/\w'=c):=fun c=>by rw[<-b3.out];exact gG sk c
  rw[b3.out]at a bc;go_quiet ((go_at_call 123;exact Ss (co.out _)));go_upto_region 6 with fail
  obtain⟨w3,b4⟩:∃w3,Hid (w2.drewN nq=w3):=⟨_,rfl⟩
  rw[b4.out];have k3:aa [] w2 w3:=by rw[<-b4.out];exact(aa.refl [] w2).drewN nq
  have ac:Hid _:=cF.out.trans k3;have c4:Hid _:=c3.out.trans k3;have bx:Hid _:=ec.out.Wj k3;clear K s1 m p1 p2 p3 p4 p5 C cf t0 eH t1 k3 b4 co;obtain⟨⟨K,s1,m⟩,p1,p2,p3,p4,p5,C⟩:=F.out w3 c4.out;cases a5
  ·rw[RY rfl]at a;by_cases ap:32<X.length
   ·rw[RY ap]at a;have ar:(32:Int)<X.length:=(by omega);go_wp2;go_ret2;rw[a.out];exact qS rfl rfl rfl ac.out
   ·rw[RU ap]at a;have ar:¬(32:Int)<X.length:=(by omega);go_wp2;go_ret2;rw[a.out];exact⟨⟨h2.ao,h2.cap,X⟩,rfl,rfl,fun _=>bx.out.sh cc (by omega),RZ (fun q o e=>Sc G.out.size (bx.out.far q (Ly e))),ac.out⟩
  ·rw[RU (by simp)]at a;have bT:Hid (U=(aZ b w r).length):=bc rfl;clear bc;have bs:Hid _:=d7.out w3 (by omega) hi (cG.Wj HP.out ac.out);by_cases dT:dC P l<0
   ·rw[RY dT]at a;generalize dC P l=bg at *;go_wp2_with (go_at_call 133;refine R0 bs.out ?_;rintro e w4 ⟨rfl,k4⟩;have aS:Hid _:=ac.out.trans k4;clear k4);go_ret2;rw[a.out];exact qS rfl rfl rfl aS.out
   ·rw[RU dT]at a;have cV:Hid (∀c,aa [] p c->Calls prog 103 #[agg #[slice (some ⟨gP,0,none⟩) P.length cP,int i64 y,string pf,int i64 pl,int i64 pc],int i64 l] c fun e w'=>∃g,e=returned (slice (some ⟨g,0,none⟩) U U)/\n8 w' g (fJ P l)/\aa [] c w'):=fun c kx=>c0.out c (cG.Wj HP.out kx) (by omega);have a1:Hid _:=(cX.out (by omega));obtain⟨R,HR⟩:∃R,Hid (fJ P l=R):=⟨_,rfl⟩
    rw[HR.out]at cV a1 a an;generalize dC P l=bg at *;(go_upto_region 11 with (go_at_call 133;refine R0 bs.out ?_;rintro e w4 ⟨rfl,k4⟩));have aS:Hid _:=ac.out.trans k4;have c5:Hid _:=c4.out.trans k4;have ef:Hid _:=bx.out.Wj k4;clear K s1 m p1 p2 p3 p4 p5 C k4;obtain⟨⟨K,s1,m⟩,p1,p2,p3,p4,p5,C⟩:=F.out w4 c5.out;have bk:Hid _:=cV.out w4 aS.out;(go_upto_region 14 with (go_at_call 103;refine R0 bk.out ?_;rintro e w5 ⟨g5,rfl,i5,k5⟩));have eb:Hid _:=aS.out.trans k5;have et:Hid _:=c5.out.trans k5;have eg:Hid _:=ef.out.Wj k5;have ea:Hid _:=i5;have em:Hid (jd w5 w5 ⟨none,0⟩ (lP [])):=⟨Sb _ _ _ _,(by intro k hk;cases hk),aa.refl _ _⟩;clear K s1 m p1 p2 p3 p4 p5 C k5 i5 bk bs;have fv:U<=10000:=(by rw[bT.out];have:=mY b w r;omega);go_wp2
    go_loopg [17,18] U (fun g o kv wr=>∃(k:Nat) (h:Hd) (O:List Sl),k<=U/\g=U-k/\o=slice h.ao O.length h.cap/\kv=int i64 k/\O.length<=k/\Hid (O=(R.take k).map (gy A))/\Hid (jd w5 wr h (lP O)))
    case atStart=>exact⟨0,⟨none,0⟩,[],by omega,rfl,rfl,rfl,RV _,by show _=_;simp,em⟩
    case round =>
     obtain⟨k,h,O,hk,hg,rfl,rfl,e9,HO,u⟩:=hrel;have bw:Hid _:=eb.out.trans u.out.kept;have c7:Hid _:=et.out.trans u.out.kept;by_cases eX:k<U
     ·have eV:(k:Int)<(U:Int):=(by omega);have ch:k<R.length:=(by rw[an.out];exact eX);have fr:=a1.out R[k] (Sj ch);have eY:R[k]<A.length:=(by omega);obtain⟨g6,e6,fo,c6⟩:=(n8.src (show n8 wr g5 R from u.out.kept.get ea.out (by simp))) k R[k] (RQ ch);cases e6
      obtain⟨gA,rfl,eL,b6⟩:=cG.sl (cG.Wj HA.out bw.out) R[k] eY;have ep:Hid (O++[gy A R[k]]=(R.take (k+1)).map (gy A)):=(by show _=_;rw[yx R _ k ch,HO.out]);have e4:((R[k]:Nat):Int)<A.length:=(by omega);have fq:(0:Int)<=((R[k]:Nat):Int):=(by omega);generalize gy A R[k]=s at *;generalize R[k]=q at *;obtain⟨N,n,sL⟩:=s;simp only at b6;have eA:=u.out.own;have ez:(lP O).n<=900000000:=by show O.length<=_;omega
      go_wp2_with (at_builtin;refine ci _ rfl (.tmp 70) (.tmp 78) 218 rfl iL (slice none 0 0) 24 h (lP O) [slice N sL.length n] underlying218 eT d2 d3 d4 rfl So rfl eA ez (by omega) rfl rfl (by simp[Value.oneCell']) ?_;intro h7 w7 ck d0;rw[show([slice N sL.length n]:List Value)=FC ⟨N,n,sL⟩ from rfl,qQ]at ck;have ej:Hid _:=u.out.Wt d0 ck;clear ck d0);go_roundg (U-(k+1))
      case measure=>omega
      case rel=>exact⟨k+1,h7,O++[⟨N,n,sL⟩],by omega,rfl,by simp[lP,kT],by go_num,by simp;omega,ep,ej⟩
     ·have ek:k=U:=(by omega);subst ek;have b2:Hid (O=R.map (gy A)):=by show _=_;rw[HO.out,Uk (by rw[an.out];exact RV _)]
      have ai:Hid (O.length=k):=(by show _=_;rw[b2.out,Sn,an.out]);have eo:Hid (O.map (·.L)=R.map (fun q=>M.getD q [])):=by
       show _=_;rw[b2.out,V6];refine Ux (fun q hq=>?_);have:=a1.out q hq;exact(cR.out q (by omega)).symm
      have t:Hid (∀s∈O,∀c,aa [] p c->oO c s):=fun s i c kx=>by
       rw[b2.out]at i;obtain⟨q,hq,rfl⟩:=Tw.1 i;have:=a1.out q hq;exact(cp.out _ (j7 A q (by omega))).Wj kx
      have eV:¬(k:Int)<(k:Int):=(by omega);rw[<-eo.out]at a;have bv:Hid _:=(qH T r b x S w _ H wr (fZ.Wj HD.out bw.out) (af.out.mono (by omega)) J (af.out.e r hr z));have V:Hid _:=zk b w r;have a2:Hid _:=(er.out r hr (by rw[c8.out];exact b3.out));rw[HX.out]at a2;have cb:(aZ b w r).length<=10000:=by have:=mY b w r;omega
      obtain⟨d,d9⟩:∃d,Hid (aZ b w r=d):=⟨_,rfl⟩
      rw[d9.out]at bv V a bT a2 cb;obtain⟨⟨K,s1,m⟩,-⟩:=F.out wr c7.out;(go_upto_region 20 with (go_at_call 63;refine R0 bv.out ?_;rintro e w7 ⟨h7,rfl,x7⟩));have ad:Hid _:=bw.out.trans x7.kept;have ex:Hid _:=c7.out.trans x7.kept;have eh:Hid _:=(eg.out.Wj u.out.kept).Wj x7.kept;have en:Hid _:=u.out.Wj x7.kept;have bl:Hid _:=x7.own.srcN;have bo:Hid _:=en.out.own.srcG v9;have dl:∀l,l<d.length->rA w d l=true->1<(a8 b w (d.getD l 0)).length:=fun q hq cj=>by
       have e:d.getD q 0=d[q]:=(by rw[RT,RQ hq];rfl);unfold rA at cj;rw[e]at cj ⊢;obtain⟨j1,-,j3⟩:=V.out d[q] (Sj hq);exact(cx.out d[q] (by omega) (by rw[j3];simp)).2 cj
      have cB:Hid _:=dl;have br:d.length<=O.length:=(by rw[ai.out,bT.out];exact RV _);have dp:O.length<=100000:=(by have:=ai.out;omega);have al:Hid _:=(JW T f b x S w _ H d h7.ao h7.cap O h.ao h.cap w7 (fZ.Wj HD.out ad.out) af.out bl.out (fun j hj=>by have:=(V.out j hj).1;omega) cb bo.out (fun s i=>(t.out s i w7 ad.out).ok) br cB.out (fun s i=>(t.out s i w7 ad.out).pos));clear dl K s1 m x7 bv;obtain⟨VV,c2⟩:∃VV,Hid (bE b w d d.length=VV):=⟨_,rfl⟩
      rw[c2.out]at al a a2;have es:Hid (VV.length=(so w d d.length).length):=by show _=_;rw[<-c2.out];unfold bE;simp
      obtain⟨OM,ag⟩:∃OM,Hid (O.map (·.L)=OM):=⟨_,rfl⟩
      rw[ag.out]at al a;have cz:Hid ((bn w d OM d.length).length=(so w d d.length).length):=by show _=_;unfold bn;simp
      have cE:Hid ((so w d d.length).length<=d.length):=by
       show _<=_;unfold so;have:=TQ (rA w d) (List.range d.length);rw[Ul]at this;exact this
      have bj:Hid (∀e5∈bn w d OM d.length,e5.length<=10000):=JQ (fun e5 hl=>by
       rw[<-ag.out]at hl;obtain⟨s,i,rfl⟩:=Tw.1 hl;exact(t.out s i w7 ad.out).le)
      obtain⟨BV,d8⟩:∃BV,Hid (bn w d OM d.length=BV):=⟨_,rfl⟩
      rw[d8.out]at al a cz bj;(go_upto_region 21 with (go_at_call 178;refine R0 al.out ?_;rintro e w8 ⟨hv,hb,B,rfl,ax,dk,nv,nb⟩));obtain⟨W8,a4⟩:∃W8,Hid (w8.alloc (.cells #[slice hv.ao VV.length hv.cap,slice hb.ao B.length hb.cap] 271)=W8):=⟨_,rfl⟩
      rw[a4.out];have k8:=fN a4.out;have B8:=fY a4.out;have D:=nv.kept.trans k8;have I:Hid _:=ad.out.trans D;have ey:Hid _:=ex.out.trans D;have bf:Hid (B.length=(so w d d.length).length):=by show _=_;rw[<-cz.out,<-ax,Sn]
      have dz:VV.length<=B.length:=(by rw[es.out,bf.out];exact RV _);have dg:B.length<=100000:=(by have:=cE.out;rw[bf.out];omega);have be:Hid (∀s∈B,s.L.length<=10000):=fun s i=>bj.out s.L (by rw[<-ax];exact Tw.2 ⟨s,i,rfl⟩);have c1:Hid _:=nv.own.srcX.Wj k8;have cy:Hid _:=(nb.own.srcG v9).Wj k8;have cq:Hid _:=dk.Wj D;have bz:Hid _:=(Jr T f r b x S w _ H d h7.ao h7.cap O h.ao h.cap VV hv.ao hv.cap B hb.ao hb.cap W8 (fZ.Wj HD.out I.out) af.out hr z (rI.Wj bl.out D) (fun j hj=>⟨by have:=(V.out j hj).1;omega,(V.out j hj).2.1⟩) cb (cG.Wj bo.out D) (fun s i=>(t.out s i W8 I.out).ok) (fun s i=>(t.out s i W8 I.out).x) br dp cB.out (fun s i=>⟨(t.out s i W8 I.out).pos,(t.out s i W8 I.out).le⟩) c1.out cy.out cq.out dz dg be.out);rw[ag.out,ax]at bz;obtain⟨E,c9⟩:∃E,Hid (nr b w f r d OM VV BV=E):=⟨_,rfl⟩
      rw[c9.out]at bz a;obtain⟨⟨K,s1,m⟩,-⟩:=F.out W8 ey.out;obtain⟨v0,v1⟩:=Ai B8;have v2:=ae B8;have d6:Hid _:=B8;have ei:Hid _:=eh.out.Wj D;have cu:Hid _:=ax;clear k8 D nv nb dk B8 al a4 ax;(go_upto_region 22 with (go_at_call 179;refine R0 bz.out ?_;rintro e w9 ⟨rfl,k9⟩));have aT:Hid _:=I.out.trans k9;cases bd:(E==0)
      ·rw[RY bd]at a;go_wp2;go_ret2;rw[a.out];exact qS rfl bd rfl aT.out
      ·rw[RU (by rw[bd];simp)]at a;have e0:E=0:=(by simpa using bd);subst e0;have a0:Hid _:=(C4 VV hv.ao hv.cap B hb.ao hb.cap X h2.ao h2.cap w9 (jB.Wj c1.out k9) (cG.Wj cy.out k9) (pu.Wj cq.out k9) dz dg (jB.Wj ei.out.own.srcX k9) (by omega) be.out);rw[cu.out]at a0;have d1:=OS (B:=BV) cc a2.out;have B9:=k9.get d6.out (by simp);obtain⟨Y,HY⟩:∃Y,Hid (dO VV BV X=Y):=⟨_,rfl⟩
       rw[HY.out]at a0 a d1;obtain⟨v3,v4⟩:=Ai B9;have v5:=ae B9;clear k9 v0 v1 v2 K s1 m;by_cases ap:32<Y.length
       ·rw[RY ap]at a;have ar:(32:Int)<Y.length:=(by omega);go_wp2_with (go_at_call 180;refine R0 a0.out ?_;rintro e e2 ⟨ca,rfl,Q⟩;have Z:Hid _:=aT.out.trans Q.kept;clear Q);go_ret2;rw[a.out];exact qS rfl rfl rfl Z.out
       ·rw[RU ap]at a;have ar:¬(32:Int)<Y.length:=(by omega);go_wp2_with (go_at_call 180;refine R0 a0.out ?_;rintro e e2 ⟨ca,rfl,Q⟩;have Z:Hid _:=aT.out.trans Q.kept;have bp:Hid _:=Q;clear Q);go_ret2;rw[a.out];exact⟨⟨ca.ao,ca.cap,Y⟩,rfl,rfl,fun _=>bp.out.sh d1 (by omega),RZ (fun q o e=>Sc aT.out.size (bp.out.far q (Ly e))),Z.out⟩
end Go.Proofs.YtnbhnocdhbcbcaaGreat
