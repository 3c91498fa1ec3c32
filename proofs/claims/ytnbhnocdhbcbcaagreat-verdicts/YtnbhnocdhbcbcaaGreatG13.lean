import Derived.Test.YtnbhnocdhbcbcaaGreatG12
namespace Go.Proofs.YtnbhnocdhbcbcaaGreat
open Go.RowKit Tryz
open Value IntKind Ending
set_option maxHeartbeats 0
variable{n M:World}{f I:Nat}{s z4:List Rw}{t:List Nat}{x:List St}{L:Nat->Hd}{z5:Fs}(m:World)(N y b:Nat)(d:Fs)(c:List Value)(g S:Nat)(w:List St)(o:Nat->Hd)(a:List Rw)(D:Nat)(T:World)(z6 z7 zb zt:Value)(H:Nat)
section
theorem Ci(k l c u:Int)(a f:ByteArray)(b d:Option Addr)(i e j g:Nat) :
    (Instr.field 158 (agg #[int i64 k,string a,slice b i e,slice d j g,string f,int i64 l,int i64 c,int i64 u]) 1).run prog T=.ok (string a) T:=by kernel_rfl
attribute [local go_sem] Ci
def kj(label:ByteArray)(L:List Rw)(steps:List kK)(f:oL):Rw :=
  if(f.1==0)=true then
    (match ua steps with
     | some u=>⟨label,3,0,((steps[u]?).map kK.at_).getD ln⟩
     | none=>if mH L steps=true then⟨label,5,0,ln⟩ else⟨label,4,0,ln⟩)
  else⟨label,2,f.1,f.2⟩
def dh(l:List St)(n:Nat)(s:St)(L:List Rw):Rw :=
  kj s.label L (dK l n s).1 (if(ua (dK l n s).1).isNone=true/\((dK l n s).2.1==0)=true then fE l n s (dK l n s).1 else(dK l n s).2)
theorem eK{x:Rw}(h:n.heap[f]?=some (.cells (kU x).toArray 38)) :
    n.cell? ⟨f,0,none⟩=some (string x.label)/\n.cell? ⟨f,1,none⟩=some (int i64 x.Wk)/\n.cell? ⟨f,2,none⟩=some (int i64 x.why)/\n.cell? ⟨f,3,none⟩=some (string x.at_.file)/\n.cell? ⟨f,4,none⟩=some (int i64 x.at_.line)/\n.cell? ⟨f,5,none⟩=some (int i64 x.at_.col):=by
  refine⟨?_,?_,?_,?_,?_,?_⟩ <;> (rw[aj h];rfl)
theorem zm(K:aa [] n M)(a:n.heap.size<=f)(b c d e g i:Value):aa [] n ((((((M.setCell ⟨f,0,none⟩ b).setCell ⟨f,1,none⟩ c).setCell ⟨f,2,none⟩ d).setCell ⟨f,3,none⟩ e).setCell ⟨f,4,none⟩ g).setCell ⟨f,5,none⟩ i) :=
  (((((K.setCell (RZ a) _).setCell (RZ a) _).setCell (RZ a) _).setCell (RZ a) _).setCell (RZ a) _).setCell (RZ a) _
set_option maxRecDepth 100000
theorem Jf(K:Nat->Hd)(L:List Rw)(t:World)(h:lx t N y w o g L)(ok:lu w)(ha:b<w.length)(a1:yN w[b])(aS:il t S w w.length K) :
    Calls prog 115 #[pointer (some ⟨N,y,none⟩),int i64 b,slice (some ⟨S,0,none⟩) w.length w.length] t fun e w' =>
      e=returned (agg (kU (dh w b w[b] L)).toArray)/\aa [] t w':=by
  have be:=h.recd.lt;have a5:=ok.len;have ap:=Qt w b ok ha a1;obtain⟨W,hW⟩:∃W,W=t.alloc (.cells #[string ⟨#[]⟩,int i64 0,int i64 0,string ⟨#[]⟩,int i64 0,int i64 0] 38):=⟨_,rfl⟩
  have kW:=fN hW.symm;have BF:W.heap[t.heap.size]?=some (.cells (kU qB).toArray 38):=by rw[hW];exact R2 _ _
  have HW:Hid _:=hW.symm;clear hW;have Y:Hid (dh w b w[b] L=kj w[b].label L (dK w b w[b]).1 (if(ua (dK w b w[b]).1).isNone=true/\((dK w b w[b]).2.1==0)=true then fE w b w[b] (dK w b w[b]).1 else(dK w b w[b]).2)):=rfl;have RD:=fun(w':World) (k:aa [] t w')=>JF N y b w o w' (h.Wj k).recd ha ok a1;have PL:=fun(hd:Hd) (w':World) (k:aa [] t w') (o':aC w' hd (gU (dK w b w[b]).1))=>K0 N y S b w o K hd (dK w b w[b]).1 w' (h.Wj k).recd ok ha (aS.Wj k) o' ap;have al:=ap.len;have ax:Hid _:=RD;have ar:Hid _:=PL;clear RD PL ap;generalize dK w b w[b]=PF at *;obtain⟨a,I,G⟩:=PF;simp only at Y ax ar al;go_enter func115,ntmps115;go_upto_region 1 with fail
  rw[HW.out];go_upto_region 2 with (go_at_call 98;refine(bG N y b w o _ (by exact(h.Wj kW).recd) ha).mono ?_;rintro e j ⟨rfl,k1⟩;unfold fL)
  obtain⟨W2,ac⟩:∃W2,W2=j.alloc (.cells #[string w[b].label,int i64 0,int i64 0,string ⟨#[]⟩,int i64 0,int i64 0] 38):=⟨_,rfl⟩
  have k2:aa [] W W2:=by rw[ac];exact k1.alloc _
  have BR:W2.heap[j.heap.size]?=some (.cells (kU ⟨w[b].label,0,0,ln⟩).toArray 38):=by rw[ac];exact R2 _ _
  have c:t.heap.size<j.heap.size:=by have:=k1.size;have:=ae BF;omega
  rw[<-ac];clear ac;have K2:=kW.trans k2;have a2:=k2.get BF (by simp);go_upto_region 3 with (go_at_call 101;refine(ax.out _ (by exact K2)).mono ?_;rintro e w3 ⟨hd,rfl,ai,bd,k3⟩;unfold ij)
  obtain⟨W4,T⟩:∃W4,W4=w3.alloc (.cells #[int i64 I,string G.file,int i64 G.line,int i64 G.col] 165):=⟨_,rfl⟩
  have k4:aa [] W2 W4:=by rw[T];exact k3.alloc _
  have B9:W4.heap[w3.heap.size]?=some (.cells (EA (I,G)) 165):=by rw[T];exact R2 _ _
  have M:aC W4 hd (gU a):=by rw[T];exact ai.Wo (fun x hx=>((aa.refl [] _).alloc _).block x (ai.lt hx) (by simp))
  rw[<-T];clear T;have bf:j.heap.size<w3.heap.size:=by have:=k3.size;have:=ae BR;omega
  have K4:=K2.trans k4;have af:=k4.get BR (by simp);have ad:=k4.get a2 (by simp);have FU:=uw hd a W4 M (by omega);cases hu:ua a with
  | some u =>
    have HU:Hid _:=hu;rw[hu]at FU;simp only[qe]at FU;have a0:u<a.length:=by
      have:=SU hu;simpa using this
    have bg:¬((u:Int)<0):=(by omega);have a6:(u:Int) ≥ 0:=(by omega);have a7:(u:Int)<a.length:=(by omega);clear hu;have Z:=K4;have O:=B9;have l:=af;have z:=ad;obtain⟨f0,f1,f2,f3⟩:=jD O;obtain⟨m,n,p,q,r,s⟩:=eK l;have yr:=am l;simp only[ln]at m n p q r s;cases U:(I==0)
    · have aT:(I != 0)=true:=by simp[bne,U]
      have Q:Hid (dh w b w[b] L=⟨w[b].label,2,I,G⟩):=(by show _=_;rw[Y.out,HU.out,U];simp[kj,U]);clear Y;(go_upto_region 4 with (go_at_call 162;refine FU.mono ?_;rintro e wu ⟨rfl,H⟩;rw[H]));(go_upto_region 16 with fail);obtain⟨X,i⟩:∃X,X=((((W4.setCell ⟨j.heap.size,1,none⟩ (int i64 2)).setCell ⟨j.heap.size,2,none⟩ (int i64 I)).setCell ⟨j.heap.size,3,none⟩ (string G.file)).setCell ⟨j.heap.size,4,none⟩ (int i64 G.line)).setCell ⟨j.heap.size,5,none⟩ (int i64 G.col):=⟨_,rfl⟩
      have P:X.heap[j.heap.size]?=some (.cells (kU ⟨w[b].label,2,I,G⟩).toArray 38):=by
        rw[i];rw[ah (ah (ah (ah (ah l _ _) _ _) _ _) _ _) _ _];rfl
      have R:aa [] t X:=(by rw[i];exact(((((Z.setCell (RZ (Te c)) _).setCell (RZ (Te c)) _).setCell (RZ (Te c)) _).setCell (RZ (Te c)) _).setCell (RZ (Te c)) _));have d:X.heap[t.heap.size]?=some (.cells (kU qB).toArray 38):=by
        rw[i];rw[Sg _ _ _ _ (by simp;omega)];rw[Sg _ _ _ _ (by simp;omega)];rw[Sg _ _ _ _ (by simp;omega)];rw[Sg _ _ _ _ (by simp;omega)];rw[Sg _ _ _ _ (by simp;omega)];exact z
      rw[<-i];clear i m n p q r s yr;obtain⟨m,n,p,q,r,s⟩:=eK P;obtain⟨A,B,C,D,E,F⟩:=eK d;have ys:=am d;simp only[qB,ln]at m n p q r s A B C D E F;go_wp2;exact Sa (v:=agg (kU ⟨w[b].label,2,I,G⟩).toArray) (by simp[results,results115,go_sem,A,B,C,D,E,F,kU]) rfl ⟨by rw[Q.out],zm R (RV _) _ _ _ _ _ _⟩
    · have aT:(I != 0)=false:=by simp[bne,U]
      obtain⟨gp,ep,az,ag,-,-,d2,d3,d4⟩:=M.step u a0;have Q:Hid (dh w b w[b] L=⟨w[b].label,3,0,a[u].at_⟩):=(by show _=_;rw[Y.out,HU.out,U];simp[kj,U,HU.out,a0]);obtain⟨ao,bc⟩:=hd;simp only at ep az ag;subst ep;clear Y;generalize a[u]=st at *;(go_upto_region 4 with (go_at_call 162;refine FU.mono ?_;rintro e wu ⟨rfl,H⟩;rw[H]));(go_upto_region 16 with fail);obtain⟨X,i⟩:∃X,X=(((W4.setCell ⟨j.heap.size,1,none⟩ (int i64 3)).setCell ⟨j.heap.size,3,none⟩ (string st.at_.file)).setCell ⟨j.heap.size,4,none⟩ (int i64 st.at_.line)).setCell ⟨j.heap.size,5,none⟩ (int i64 st.at_.col):=⟨_,rfl⟩
      have P:X.heap[j.heap.size]?=some (.cells (kU ⟨w[b].label,3,0,st.at_⟩).toArray 38):=by
        rw[i];rw[ah (ah (ah (ah l _ _) _ _) _ _) _ _];rfl
      have R:aa [] t X:=(by rw[i];exact((((Z.setCell (RZ (Te c)) _).setCell (RZ (Te c)) _).setCell (RZ (Te c)) _).setCell (RZ (Te c)) _));have d:X.heap[t.heap.size]?=some (.cells (kU qB).toArray 38):=by
        rw[i];rw[Sg _ _ _ _ (by simp;omega)];rw[Sg _ _ _ _ (by simp;omega)];rw[Sg _ _ _ _ (by simp;omega)];rw[Sg _ _ _ _ (by simp;omega)];exact z
      rw[<-i];clear i m n p q r s yr;obtain⟨m,n,p,q,r,s⟩:=eK P;obtain⟨A,B,C,D,E,F⟩:=eK d;have ys:=am d;simp only[qB,ln]at m n p q r s A B C D E F;go_wp2;exact Sa (v:=agg (kU ⟨w[b].label,3,0,st.at_⟩).toArray) (by simp[results,results115,go_sem,A,B,C,D,E,F,kU]) rfl ⟨by rw[Q.out],zm R (RV _) _ _ _ _ _ _⟩
  | none =>
    have HU:Hid _:=hu;rw[hu]at FU;simp only[qe]at FU;clear hu;cases U:(I==0)
    · have aT:(I != 0)=true:=by simp[bne,U]
      have Q:Hid (dh w b w[b] L=⟨w[b].label,2,I,G⟩):=(by show _=_;rw[Y.out,HU.out,U];simp[kj,U]);have Z:=K4;have O:=B9;have l:=af;have z:=ad;obtain⟨f0,f1,f2,f3⟩:=jD O;obtain⟨m,n,p,q,r,s⟩:=eK l;have yr:=am l;simp only[ln]at m n p q r s;clear Y;(go_upto_region 4 with (go_at_call 162;refine FU.mono ?_;rintro e wu ⟨rfl,H⟩;rw[H]));(go_upto_region 16 with fail);obtain⟨X,i⟩:∃X,X=((((W4.setCell ⟨j.heap.size,1,none⟩ (int i64 2)).setCell ⟨j.heap.size,2,none⟩ (int i64 I)).setCell ⟨j.heap.size,3,none⟩ (string G.file)).setCell ⟨j.heap.size,4,none⟩ (int i64 G.line)).setCell ⟨j.heap.size,5,none⟩ (int i64 G.col):=⟨_,rfl⟩
      have P:X.heap[j.heap.size]?=some (.cells (kU ⟨w[b].label,2,I,G⟩).toArray 38):=by
        rw[i];rw[ah (ah (ah (ah (ah l _ _) _ _) _ _) _ _) _ _];rfl
      have R:aa [] t X:=(by rw[i];exact(((((Z.setCell (RZ (Te c)) _).setCell (RZ (Te c)) _).setCell (RZ (Te c)) _).setCell (RZ (Te c)) _).setCell (RZ (Te c)) _));have d:X.heap[t.heap.size]?=some (.cells (kU qB).toArray 38):=by
        rw[i];rw[Sg _ _ _ _ (by simp;omega)];rw[Sg _ _ _ _ (by simp;omega)];rw[Sg _ _ _ _ (by simp;omega)];rw[Sg _ _ _ _ (by simp;omega)];rw[Sg _ _ _ _ (by simp;omega)];exact z
      rw[<-i];clear i m n p q r s yr;obtain⟨m,n,p,q,r,s⟩:=eK P;obtain⟨A,B,C,D,E,F⟩:=eK d;have ys:=am d;simp only[qB,ln]at m n p q r s A B C D E F;go_wp2;exact Sa (v:=agg (kU ⟨w[b].label,2,I,G⟩).toArray) (by simp[results,results115,go_sem,A,B,C,D,E,F,kU]) rfl ⟨by rw[Q.out],zm R (RV _) _ _ _ _ _ _⟩
    · have J:Hid (dh w b w[b] L=kj w[b].label L a (fE w b w[b] a)):=by show _=_;rw[Y.out,HU.out,U];simp
      obtain⟨f0,f1,f2,f3⟩:=jD B9;clear Y;generalize fE w b w[b] a=f at *;(go_upto_region 4 with (go_at_call 162;refine FU.mono ?_;rintro e wu ⟨rfl,H⟩;rw[H]));have ba:=K4;(go_upto_region 7 with (go_at_call 163;refine(ar.out hd _ (by exact K4) (by exact M)).mono ?_;rintro e w5 ⟨rfl,k5⟩;unfold ij;obtain⟨t0,t1,t2,t3⟩:=jD (k5.get B9 (by simp));have yt:=am (k5.get B9 (by simp))));obtain⟨V,hV⟩:∃V,V=(((w5.setCell ⟨w3.heap.size,0,none⟩ (int i64 f.1)).setCell ⟨w3.heap.size,1,none⟩ (string f.2.file)).setCell ⟨w3.heap.size,2,none⟩ (int i64 f.2.line)).setCell ⟨w3.heap.size,3,none⟩ (int i64 f.2.col):=⟨_,rfl⟩
      have O:V.heap[w3.heap.size]?=some (.cells (EA f) 165):=by
        rw[hV,ah (ah (ah (ah (k5.get B9 (by simp)) _ _) _ _) _ _)];rfl
      have k9:aa [w3.heap.size] w5 V:=(by rw[hV];exact jE _ _ _ _);have Z:aa [] t V:=(by rw[hV];exact kO (K4.trans k5) (by omega) _ _ _ _);have l:=k9.get (k5.get af (by simp)) (by simp;omega);have z:=k9.get (k5.get ad (by simp)) (by simp;omega);have a3:aC V hd (gU a):=(M.Wo (w':=w5) (fun x hx=>k5.block x (M.lt hx) (by simp))).Wo (fun x hx=>k9.block x (R6 (M.lt hx) k5.size) (by simp;rintro rfl;have:=ai.lt hx;omega));rw[<-hV];clear hV t0 t1 t2 t3 yt;clear f0 f1 f2 f3;obtain⟨f0,f1,f2,f3⟩:=jD O;obtain⟨m,n,p,q,r,s⟩:=eK l;have yr:=am l;simp only[ln]at m n p q r s;cases hf:(f.1==0)
      · have a4:(f.1 != 0)=true:=by simp[bne,hf]
        have Q:Hid (dh w b w[b] L=⟨w[b].label,2,f.1,f.2⟩):=(by show _=_;rw[J.out];simp[kj,hf]);clear J;(go_upto_region 16 with fail);obtain⟨X,i⟩:∃X,X=((((V.setCell ⟨j.heap.size,1,none⟩ (int i64 2)).setCell ⟨j.heap.size,2,none⟩ (int i64 f.1)).setCell ⟨j.heap.size,3,none⟩ (string f.2.file)).setCell ⟨j.heap.size,4,none⟩ (int i64 f.2.line)).setCell ⟨j.heap.size,5,none⟩ (int i64 f.2.col):=⟨_,rfl⟩
        have P:X.heap[j.heap.size]?=some (.cells (kU ⟨w[b].label,2,f.1,f.2⟩).toArray 38):=by
          rw[i];rw[ah (ah (ah (ah (ah l _ _) _ _) _ _) _ _) _ _];rfl
        have R:aa [] t X:=(by rw[i];exact(((((Z.setCell (RZ (Te c)) _).setCell (RZ (Te c)) _).setCell (RZ (Te c)) _).setCell (RZ (Te c)) _).setCell (RZ (Te c)) _));have d:X.heap[t.heap.size]?=some (.cells (kU qB).toArray 38):=by
          rw[i];rw[Sg _ _ _ _ (by simp;omega)];rw[Sg _ _ _ _ (by simp;omega)];rw[Sg _ _ _ _ (by simp;omega)];rw[Sg _ _ _ _ (by simp;omega)];rw[Sg _ _ _ _ (by simp;omega)];exact z
        rw[<-i];clear i m n p q r s yr;obtain⟨m,n,p,q,r,s⟩:=eK P;obtain⟨A,B,C,D,E,F⟩:=eK d;have ys:=am d;simp only[qB,ln]at m n p q r s A B C D E F;go_wp2;exact Sa (v:=agg (kU ⟨w[b].label,2,f.1,f.2⟩).toArray) (by simp[results,results115,go_sem,A,B,C,D,E,F,kU]) rfl ⟨by rw[Q.out],zm R (RV _) _ _ _ _ _ _⟩
      · have a4:(f.1 != 0)=false:=by simp[bne,hf]
        have RE:=MZ N y w o g L hd a V (h.Wj Z) a3 (by omega);cases hr:mH L a
        · have Q:Hid (dh w b w[b] L=⟨w[b].label,4,0,ln⟩):=by show _=_;rw[J.out];simp[kj,hf,HU.out,hr]
          rw[hr]at RE;clear J;(go_upto_region 6 with (go_at_call 164;refine RE.mono ?_;rintro e wv ⟨rfl,an⟩;rw[an]));(go_upto_region 16 with fail);obtain⟨X,i⟩:∃X,X=V.setCell ⟨j.heap.size,1,none⟩ (int i64 4):=⟨_,rfl⟩
          have P:X.heap[j.heap.size]?=some (.cells (kU ⟨w[b].label,4,0,ln⟩).toArray 38):=by
            rw[i];rw[ah l _ _];rfl
          have R:aa [] t X:=(by rw[i];exact(Z.setCell (RZ (Te c)) _));have d:X.heap[t.heap.size]?=some (.cells (kU qB).toArray 38):=by
            rw[i];rw[Sg _ _ _ _ (by simp;omega)];exact z
          rw[<-i];clear i m n p q r s yr;obtain⟨m,n,p,q,r,s⟩:=eK P;obtain⟨A,B,C,D,E,F⟩:=eK d;have ys:=am d;simp only[qB,ln]at m n p q r s A B C D E F;go_wp2;exact Sa (v:=agg (kU ⟨w[b].label,4,0,ln⟩).toArray) (by simp[results,results115,go_sem,A,B,C,D,E,F,kU,ln]) rfl ⟨by rw[Q.out],zm R (RV _) _ _ _ _ _ _⟩
        · have Q:Hid (dh w b w[b] L=⟨w[b].label,5,0,ln⟩):=by show _=_;rw[J.out];simp[kj,hf,HU.out,hr]
          rw[hr]at RE;clear J;(go_upto_region 15 with (go_at_call 164;refine RE.mono ?_;rintro e wv ⟨rfl,an⟩;rw[an]));(go_upto_region 16 with fail);obtain⟨X,i⟩:∃X,X=V.setCell ⟨j.heap.size,1,none⟩ (int i64 5):=⟨_,rfl⟩
          have P:X.heap[j.heap.size]?=some (.cells (kU ⟨w[b].label,5,0,ln⟩).toArray 38):=by
            rw[i];rw[ah l _ _];rfl
          have R:aa [] t X:=(by rw[i];exact(Z.setCell (RZ (Te c)) _));have d:X.heap[t.heap.size]?=some (.cells (kU qB).toArray 38):=by
            rw[i];rw[Sg _ _ _ _ (by simp;omega)];exact z
          rw[<-i];clear i m n p q r s yr;obtain⟨m,n,p,q,r,s⟩:=eK P;obtain⟨A,B,C,D,E,F⟩:=eK d;have ys:=am d;simp only[qB,ln]at m n p q r s A B C D E F;go_wp2;exact Sa (v:=agg (kU ⟨w[b].label,5,0,ln⟩).toArray) (by simp[results,results115,go_sem,A,B,C,D,E,F,kU,ln]) rfl ⟨by rw[Q.out],zm R (RV _) _ _ _ _ _ _⟩
end
def lM(l:List St)(n:Nat)(prev:List Rw):Rw:=match l[n]? with
 | some s=>if(s.kind==4)=true then⟨s.label,1,0,ln⟩ else if(s.kind==5)=true then dh l n s prev else qB
 | none=>qB
def ev(l:List St):Nat->List Rw
 | 0=>[]
 | k+1=>ev l k++[lM l k (ev l k)]
theorem lR(k:Nat):(ev w k).length=k:=by
 induction k with
 | zero=>rfl
 | succ k a=>simp[ev,a]
def j5(l:List St)(k:Nat):List Rw:=ev l k++List.replicate (l.length-k) qB
theorem xn(h:H<=w.length):(j5 w H).length=w.length:=by simp[j5,lR];omega
theorem JG(h:H<w.length):j5 w (H+1)=(j5 w H).set H (lM w H (ev w H)):=by
 unfold j5;have e:w.length-H=(w.length-(H+1))+1:=by omega
 rw[e,U7,ev];have a:=lR w H;rw[Uq _ _ (by omega),a,Td,UJ,TM];rfl
theorem MB:j5 w w.length=ev w w.length:=by simp[j5]
theorem MC(h:H<w.length):(j5 w H).set H qB=j5 w H:=by
 unfold j5;have e:w.length-H=(w.length-(H+1))+1:=by omega
 have a:=lR w H;rw[e,U7,Uq _ _ (by omega),a,Td,UJ]
theorem NC:nX (a++List.replicate D qB) H=nX a H:=by
 unfold nX;rw[RT,RT];by_cases h:H<a.length
 ·rw[Si h]
 ·rw[Sf (by omega),SG (l:=a) (by omega),TJ];split <;> rfl
theorem Dc(h:∀n,nX s n=nX z4 n)(a:List kK):mH s a=mH z4 a:=by
 unfold mH;simp only[h]
theorem AB(h:∀n,nX s n=nX z4 n)(l:List St)(n:Nat)(a:St):dh l n a s=dh l n a z4:=by
 unfold dh kj;rw[Dc h]
theorem EG(s:St)(k:Nat):dh w H s (j5 w k)=dh w H s (ev w k):=AB (fun _=>NC _ _ _) w H s
theorem ov(M B:List Value)(i j:Nat)(v:Value)(a:i=c.length+j)(b:j<M.length):(c++(M++B)).set i v=c++(M.set j v++B):=by
 subst a;rw[Uq _ _ (by omega),Nat.add_sub_cancel_left,UY _ _ b]
theorem zD(b:H<a.length):iI a=iI (a.take H)++(kU a[H]++iI (a.drop (H+1))):=by
 have e:a=a.take H++(a[H] :: a.drop (H+1)):=by rw[<-Sq b,List.take_append_drop]
 conv=>lhs;rw[e]
 unfold iI;rw[TI,SZ]
theorem Hh(b:H<a.length)(r:Rw) :
  (((((((iI a).set (H*6) (string r.label)).set (H*6+1) (int i64 r.Wk)).set (H*6+2) (int i64 r.why)).set (H*6+3) (string r.at_.file)).set (H*6+4) (int i64 r.at_.line)).set (H*6+5) (int i64 r.at_.col))=iI (a.set H r):=by
 have d:(iI (a.take H)).length=H*6:=by rw[Dn,To];congr 1;omega
 have c:iI (a.set H r)=iI (a.take H)++(kU r++iI (a.drop (H+1))):=by
  rw[zD (a.set H r) H (by simpa using b)];simp[List.take_set,List.drop_set];rw[List.set_eq_of_length_le (by simp;omega)]
 rw[c,zD a H b,kU,ov _ _ _ _ 0 _ (by omega) (by simp),ov _ _ _ _ 1 _ (by omega) (by simp),ov _ _ _ _ 2 _ (by omega) (by simp),ov _ _ _ _ 3 _ (by omega) (by simp),ov _ _ _ _ 4 _ (by omega) (by simp),ov _ _ _ _ 5 _ (by omega) (by simp)];rfl
theorem aa.wide(k:aa [] n M):aa t n M:=k.mono (by simp)
def rC(w:World)(g k:Nat)(r:Rw):World :=
 (((((w.setCell ⟨g,k*6,none⟩ (string r.label)).setCell ⟨g,k*6+1,none⟩ (int i64 r.Wk)).setCell ⟨g,k*6+2,none⟩ (int i64 r.why)).setCell ⟨g,k*6+3,none⟩ (string r.at_.file)).setCell ⟨g,k*6+4,none⟩ (int i64 r.at_.line)).setCell ⟨g,k*6+5,none⟩ (int i64 r.at_.col)
theorem ny(r:Rw):aa [D] m (rC m D H r) :=
 ((((((aa.refl [D] m).setCell (R4 (by simp)) _).setCell (R4 (by simp)) _).setCell (R4 (by simp)) _).setCell (R4 (by simp)) _).setCell (R4 (by simp)) _).setCell (R4 (by simp)) _
theorem lx.store{g:Nat}(h:lx n f I x L g s)(c:f≠g)(j:∀a,gO L a->a≠g)(k:Nat)(l:k<s.length)(r:Rw):lx (rC n g k r) f I x L g (s.set k r):=by
 have d:=ny n g k r;obtain⟨b,t,e,i⟩:=h.cell;refine⟨h.recd.kept d (by simpa using c) (fun a m=>by simpa using j a m),⟨b,t,d.get e (by simpa using c),by rw[SS];exact i⟩,?_⟩;unfold rC;rw[ah (ah (ah (ah (ah (ah h.arr _ _) _ _) _ _) _ _) _ _)];simp only[List.setIfInBounds_toArray];rw[Hh s k l r]
def vA(l:List St)(H:Nat->Hd):Nat->Hd:=fun i=>if i=6∨(10<=i/\i<10+2*l.length) then H i else⟨none,0⟩
theorem oF(h:H=6∨(10<=H/\H<10+2*w.length)):vA w o H=o H:=RY h
theorem hQ.trim(h:hQ n x L):hQ n x (vA x L)/\∀k,gO (vA x L) k->k<n.heap.size/\gO L k:=by
 refine⟨⟨?_,fun i s c=>?_,fun i s c=>?_⟩,?_⟩
 ·have e:mT x (vA x L)=mT x L:=by
   rw[<-vx x L (fun i=>if i<10+2*x.length then L i else⟨none,0⟩) (fun j f=>RY f)];apply xP;intro j f;by_cases b:j<10+2*x.length
   ·simp only[if_pos b];exact oF x L j (RZ ⟨f,b⟩)
   ·simp only[if_neg b];exact RU (by omega)
  rw[oF x L 6 (R4 rfl)];unfold iW;rw[e];exact h.own
 ·have a:i<x.length:=(R8.1 c).1;rw[oF x L (10+2*i) (by omega)];exact h.syms i s c
 ·have a:i<x.length:=(R8.1 c).1;rw[oF x L (11+2*i) (by omega)];exact h.prfs i s c
 ·rintro k ⟨i,a⟩;by_cases d:i=6∨(10<=i/\i<10+2*x.length)
  ·rw[oF x L i d]at a;refine⟨?_,⟨i,a⟩⟩;rcases d with rfl | ⟨g,l⟩
   ·exact h.own.lt a
   ·by_cases m:(i-10) % 2=0
    ·have e:i=10+2*((i-10) / 2):=(by omega);rw[e]at a;have b:(i-10) / 2<x.length:=by omega
     exact(h.syms _ _ (RQ b)).lt a
    ·have e:i=11+2*((i-10) / 2):=(by omega);rw[e]at a;have b:(i-10) / 2<x.length:=by omega
     exact(h.prfs _ _ (RQ b)).lt a
  ·have e:vA x L i=⟨none,0⟩:=RU d;rw[e]at a;simp[Hd.blk]at a
set_option maxRecDepth 100000
theorem tD(h:lx T b g w o S (j5 w 0))(ok:lu w)(ac:∀i (hi:i<w.length),yN w[i])(hb:b≠S)(hg:∀x,gO o x->x≠S) :
  Calls prog 82 #[pointer (some ⟨b,g,none⟩)] T fun e a=>e=returned (tuple #[])/\lx a b g w o S (ev w w.length)/\aa [S] T a:=by
 have ar:=h.recd.lt;have aT:=ae h.arr;have ag:=ok.len;go_enter func82,ntmps82;go_wp2_with (go_at_call 114;refine(sR b g w o _ (by exact h.recd) ok).mono ?_;rintro e w1 ⟨W,K,rfl,A1,aS,Z,k1⟩)
 go_loopg [3] w.length (fun gk iv wr=>∃(k:Nat),k<=w.length/\gk=w.length-k/\iv=int i64 k/\lx wr b g w o S (j5 w k)/\il wr W w w.length K/\aa [S] T wr)
 case atStart=>exact⟨0,by omega,by omega,rfl,h.Wj k1,A1,k1.wide⟩
 case round =>
  obtain⟨k,hk,ax,rfl,y,hA,hK⟩:=hrel;have m:Hid _:=xn w k hk;have c2:=y.at2;rw[m.out]at c2;by_cases d:k<w.length
  ·have j:Hid (lM w k (ev w k)=if(w[k].kind==4)=true then⟨w[k].label,1,0,ln⟩ else if(w[k].kind==5)=true then dh w k w[k] (j5 w k) else qB):=by
    show _=_;unfold lM;rw[RQ d,EG]
   have f:Hid _:=JG w k d;(go_upto_region 5 with (go_at_call 98;refine(bG b g k w o _ (by exact y.recd) d).mono ?_;rintro e P ⟨rfl,k3⟩;unfold fL));obtain⟨X,O⟩:∃X,X=P.alloc (.cells #[int i64 w[k].kind,string w[k].label,slice (o (10+2*k)).ao w[k].We.length (o (10+2*k)).cap,slice (o (11+2*k)).ao w[k].Wp.length (o (11+2*k)).cap,string w[k].fin.file,int i64 w[k].fin.line,int i64 w[k].fin.col,int i64 w[k].til] 158):=⟨_,rfl⟩
   have kX:aa [] wr X:=(by rw[O];exact k3.alloc _);have BX:=fY O.symm;rw[<-O];clear O;obtain⟨m0,m1,-⟩:=vI BX;have c:=y.Wj kX;have M:=hA.Wj kX;have V:=hK.trans kX.wide;have az:=ae c.arr;have ap:=c.recd.lt;have a1:wr.heap.size<=P.heap.size:=k3.size;have af:=ae y.arr;have ad:=y.recd.lt;have u:W≠S:=(by omega);have t:∀n x,(K n).blk=some x->x∉[S]:=fun n x hx=>by have:=Z n x hx;simp;omega
   have v:=c.at2;rw[m.out]at v;have z:k<(j5 w k).length:=(by rw[m.out];exact d);obtain⟨F,G,H,I,J,L⟩:=c.row k z;have Q:=am c.arr;have a0:(k:Int)<w.length:=(by omega);have ai:P.heap.size≠S:=(by omega);have al:S≠P.heap.size:=(by omega);have an:S≠b:=fun e=>hb e.symm;clear c2;generalize (j5 w k)[k]=l at *;cases N:(w[k].kind==4)
   ·cases Y:(w[k].kind==5)
    ·have D:Hid (j5 w (k+1)=j5 w k):=by
      show _=_;rw[f.out,j.out,N,Y];simp only[Bool.false_eq_true,if_false];exact MC w k d
     clear j f;go_wp2;go_roundg (w.length-(k+1))
     case measure=>omega
     case rel=>exact⟨k+1,by omega,rfl,by go_num,by rw[D.out];exact c,M,V⟩
    ·have D:Hid (j5 w (k+1)=(j5 w k).set k (dh w k w[k] (j5 w k))):=(by show _=_;rw[f.out,j.out,N,Y];rfl);have JA:=fun(a:World) (q:aa [] X a)=>Jf b g k S W w o K (j5 w k) a (c.Wj q) ok d (ac k d) (M.Wj q);have E:Hid _:=JA;have R:Hid (∀a,aa [] X a->a.cell? ⟨b,g+2,none⟩=some (slice (some ⟨S,0,none⟩) w.length w.length)):=by
      intro a q;have:=(c.Wj q).at2;rw[m.out]at this;exact this
     have U:Hid (∀a,aa [] X a->a.cell? ⟨S,k*6,none⟩=some (string l.label)/\a.cell? ⟨S,k*6+1,none⟩=some (int i64 l.Wk)/\a.cell? ⟨S,k*6+2,none⟩=some (int i64 l.why)/\a.cell? ⟨S,k*6+3,none⟩=some (string l.at_.file)/\a.cell? ⟨S,k*6+4,none⟩=some (int i64 l.at_.line)/\a.cell? ⟨S,k*6+5,none⟩=some (int i64 l.at_.col)/\∀n,a.frozen? ⟨S,n,none⟩=false):=by
      intro a q;have A:=q.get c.arr (by simp);refine⟨?_,?_,?_,?_,?_,?_,fun n=>am A n⟩
      ·rw[aj A,<-aj c.arr];exact F
      ·rw[aj A,<-aj c.arr];exact G
      ·rw[aj A,<-aj c.arr];exact H
      ·rw[aj A,<-aj c.arr];exact I
      ·rw[aj A,<-aj c.arr];exact J
      ·rw[aj A,<-aj c.arr];exact L
     unfold kU at E;clear j f JA F G H I J L Q;generalize dh w k w[k] (j5 w k)=r at *;(go_upto_region 8 with fail);go_region_held3 (fun a=>a.cell? ⟨b,g+2,none⟩=some (slice (some ⟨S,0,none⟩) w.length w.length)) (go_keep) (first | (go_at_call 115;refine(E.out _ (by exact(aa.refl [] X).drew)).mono ?_;rintro e w5 ⟨rfl,k5⟩;have x0:=R.out w5 ((aa.refl [] X).drew.trans k5);obtain⟨F,G,H,I,J,L,Q⟩:=U.out w5 ((aa.refl [] X).drew.trans k5)))
     all_goals
      have kk:=((aa.refl [] X).drew.trans k5);have s:=(c.Wj kk).store hb hg k z r;have p:=ny w5 S k r;have B:=(M.Wj kk).kept p (by simpa using u) t;have C:=(V.trans kk.wide).trans p;rw[<-D.out]at s;unfold rC at s p B C;clear m0 m1 v F G H I J L Q x0;go_wp2;go_roundg (w.length-(k+1))
      case measure=>omega
      case rel=>exact⟨k+1,by omega,rfl,by go_num,s,B,C⟩
   ·have Y:(w[k].kind==5)=false:=(by have:=Vc N;rw[this];rfl);have D:Hid (j5 w (k+1)=(j5 w k).set k ⟨w[k].label,1,0,ln⟩):=(by show _=_;rw[f.out,j.out,N];rfl);clear j f;(go_upto_region 6 with fail);go_region
    all_goals
     have s:=c.store hb hg k z ⟨w[k].label,1,0,ln⟩;have p:=ny X S k ⟨w[k].label,1,0,ln⟩;have B:=M.kept p (by simpa using u) t;have C:=V.trans p;rw[<-D.out]at s;unfold rC at s p B C;simp only[ln]at s B C;clear m1 v F G H I J L Q p;go_wp2;go_roundg (w.length-(k+1))
     case measure=>omega
     case rel=>exact⟨k+1,by omega,rfl,by go_num,s.Wj (aa.refl [] _).drew,B.Wj (aa.refl [] _).drew,C.drew⟩
  ·have e:k=w.length:=(by omega);subst e;rw[MB]at y;go_wp2;go_end0;exact⟨rfl,y,hK⟩
def Dg(l:List St):List Rw:=(ev l l.length).filter (fun r=>!(r.Wk==0))
theorem Jn:madeCells (agg #[string ⟨#[]⟩,int i64 0,int i64 0,string ⟨#[]⟩,int i64 0,int i64 0]).cells (H*6)=(iI (List.replicate H qB)).toArray:=by
  have k:(agg #[string ⟨#[]⟩,int i64 0,int i64 0,string ⟨#[]⟩,int i64 0,int i64 0]).cells=(kU qB).toArray:=by rfl
  rw[k];apply Array.ext
  · rw[TO];simp[Dn]
  · intro i f g
    rw[TO]at f;have n:i / 6<(List.replicate H qB).length:=by simp;omega
    have e:=A8 (List.replicate H qB) (i / 6) n (i % 6) (by omega);have d:i / 6*6+i % 6=i:=(by omega);have a:(List.replicate H qB)[i / 6]=qB:=(by simp);rw[d,a]at e;have j:i<(iI (List.replicate H qB)).length:=by simpa using g
    have b:(iI (List.replicate H qB)).toArray[i]=(iI (List.replicate H qB))[i]:=(by simp);rw[b];have c:some (iI (List.replicate H qB))[i]=(kU qB)[i % 6]?:=by rw[<-e,RQ j]
    have l:some (madeCells (kU qB).toArray (H*6))[i]=(kU qB)[i % 6]?:=by
      have m:i % 6=0∨i % 6=1∨i % 6=2∨i % 6=3∨i % 6=4∨i % 6=5:=(by omega);have o:(kU qB).toArray.size=6:=rfl;simp only[madeCells,Array.getElem_map,Array.getElem_range,o];rcases m with h | h | h | h | h | h <;> rw[h] <;> rfl
    exact TU (l.trans c.symm)
theorem MD:j5 w 0=List.replicate w.length qB:=by simp[j5,ev]
theorem qu(h:aa [] n M)(b:n.heap.size<=f)(a:n.heap.size<=I)(c d e g i j k:Value) :
    aa [] n (((((((M.setCell ⟨f,0,none⟩ c).setCell ⟨f,1,none⟩ d).setCell ⟨f,2,none⟩ e).setCell ⟨I,0,none⟩ g).setCell ⟨I,1,none⟩ i).setCell ⟨I,2,none⟩ j).setCell ⟨I,3,none⟩ k) :=
  ((((((h.setCell (RZ b) _).setCell (RZ b) _).setCell (RZ b) _).setCell (RZ a) _).setCell (RZ a) _).setCell (RZ a) _).setCell (RZ a) _
theorem tX(a b c:Value) :
    aa [S,D] m (((((((m.setCell ⟨S,0,none⟩ z6).setCell ⟨S,1,none⟩ z7).setCell ⟨S,2,none⟩ zb).setCell ⟨D,0,none⟩ zt).setCell ⟨D,1,none⟩ a).setCell ⟨D,2,none⟩ b).setCell ⟨D,3,none⟩ c) :=
  (((((((aa.refl [S,D] m).setCell (R4 (by simp)) _).setCell (R4 (by simp)) _).setCell (R4 (by simp)) _).setCell (R4 (by simp)) _).setCell (R4 (by simp)) _).setCell (R4 (by simp)) _).setCell (R4 (by simp)) _
def DV(fs:Fs)(k0:Nat)(w:World)(e:Ending)(w':World):Prop :=
  (if((cv fs k0).1.1==0)=true then ∃(H:Nat->Hd) (g:Nat) (a7:Option Addr) (n7 c7:Nat),
      e=returned (tuple #[agg #[slice (H 6).ao (cv fs k0).2.2.Wv.length (H 6).cap,slice a7 n7 c7,slice (some ⟨g,0,none⟩) (cv fs k0).2.2.Wv.length (cv fs k0).2.2.Wv.length],ij cM]) /\
      hQ w' (cv fs k0).2.2.Wv H/\w'.heap[g]?=some (.cells (iI (ev (cv fs k0).2.2.Wv (cv fs k0).2.2.Wv.length)).toArray 38)/\(∀k,gO H k->w.heap.size<=k)/\w.heap.size<=g
   else e=returned (tuple #[agg #[slice none 0 0,slice none 0 0,slice none 0 0],ij (cv fs k0).1]))/\aa [] w w'
theorem Qp(ht:bF T N y d c)(ar:b<d.length)(al:∀j,j<d.length->(ak d j).size<=1024) :
    Calls prog 54 #[pointer (some ⟨N,0,none⟩),int i64 b] T fun e u=>DV d b T e u:=by
  have bc:=ht.lt;obtain⟨i0,hi,az,aS,aT⟩:=Sr Mh;have Y:Hid _:=xA d al b;obtain⟨W,hW⟩:∃W,W=(T.alloc (.cells #[slice none 0 0,slice none 0 0,slice none 0 0] 78)).alloc (.cells #[int i64 0,string ⟨#[]⟩,int i64 0,int i64 0] 87):=⟨_,rfl⟩
  have hK:aa [] T W:=by rw[hW];exact((aa.refl [] _).alloc _).alloc _
  have hA:W.heap[T.heap.size]?=some (.cells #[slice none 0 0,slice none 0 0,slice none 0 0] 78):=by
    rw[hW];exact((aa.refl [] _).alloc _).get (R2 _ _) (by simp)
  have hF:W.heap[T.heap.size+1]?=some (.cells bD 87):=by
    rw[hW];have e:(T.alloc (.cells #[slice none 0 0,slice none 0 0,slice none 0 0] 78)).heap.size=T.heap.size+1:=by simp
    rw[<-e];exact R2 _ _
  have HW:Hid _:=hW.symm;have RD:=MV N y b d c W (ht.kept hK (by simp)) ar al;have ad:Hid _:=RD;clear RD hW;unfold DV;generalize cv d b=R at *;obtain⟨⟨r,pf,pl,pc⟩,a6,d'⟩:=R;simp only[ij,cM]at ad Y ⊢;generalize d'.Wv=l at *;generalize d'.rbl=rb at *;go_enter func54,ntmps54;go_wp2_with fail;rw[HW.out];refine R0 ad.out ?_;rintro e a ⟨i,v⟩;have M:=v.get hA (by simp);have O:=v.get hF (by simp);have hz:=v.size;have ba:=ae hF;cases hr:(r==0)
  · have ax:(r != 0)=true:=by simp[bne,hr]
    simp only[hr,Bool.false_eq_true,if_false]at i ⊢;subst i;obtain⟨a0,a1,a2⟩:=vH M;obtain⟨z0,z1,z2,z3⟩:=cD O;have ya:=am M;have yf:=am O;have z:=ae M;have A:=ae O;go_wp2_with fail;go_region
    all_goals go_wp2
    all_goals exact Sa (v:=tuple #[agg #[slice none 0 0,slice none 0 0,slice none 0 0],agg #[int i64 r,string pf,int i64 pl,int i64 pc]]) (by simp[results,results54,go_sem,a0,a1,a2,z0,z1,z2,z3,z,A]) rfl ⟨rfl,(((qu (hK.trans v) (RV _) (Vd _) _ _ _ _ _ _ _).alloc _).alloc _).drew⟩
  · have ax:(r != 0)=false:=by simp[bne,hr]
    simp only[hr,if_true]at i ⊢;obtain⟨I,rfl,ai,ag⟩:=i;obtain⟨hS,hT⟩:=ai.trim;have af:I 6=vA l I 6:=(oF l I 6 (R4 rfl)).symm;rw[af];have hN:∀k,gO (vA l I) k->k<a.heap.size/\T.heap.size+2<=k:=fun k s=>⟨(hT k s).1,by have:=ag k (hT k s).2;omega⟩
    clear ai ag hT af;generalize vA l I=H at *;generalize (I 7).ao=m at *;generalize (I 7).cap=n at *;generalize rb.length=p at *;clear I;have Z:Hid _:=hN;have a4:=Y.out.ok.len;obtain⟨g,B⟩:∃g,g=(a.alloc (.cells #[slice (H 6).ao l.length (H 6).cap,slice m p n] 76)).alloc (.cells #[int i64 0,string ⟨#[]⟩,int i64 0,int i64 0] 87):=⟨_,rfl⟩
    have k3:aa [] a g:=(by rw[B];exact((aa.refl [] _).alloc _).alloc _);have B3:g.heap[a.heap.size]?=some (.cells #[slice (H 6).ao l.length (H 6).cap,slice m p n] 76):=by
      rw[B];exact((aa.refl [] _).alloc _).get (R2 _ _) (by simp)
    have G:g.heap.size=a.heap.size+2:=(by rw[B];simp);have Q:=hS.Wj k3;have R3:f9 g a.heap.size 0 l H:=⟨⟨_,_,B3,rfl⟩,Q⟩;obtain⟨r0,r1⟩:=Ai B3;have an:Hid (∀u,aa [] g u->Calls prog 81 #[pointer (some ⟨a.heap.size,0,none⟩)] u fun e a3=>e=returned (int i64 l.length)/\a3=u):=fun u q=>fe a.heap.size 0 l H u (R3.Wj q);have a5:Hid (∀u,aa [] g u->u.cell? ⟨a.heap.size,0,none⟩=some (slice (H 6).ao l.length (H 6).cap)/\u.cell? ⟨a.heap.size,1,none⟩=some (slice m p n)):=fun u q=>by
      have q2:=q.get B3 (by simp);exact⟨by rw[aj q2];rfl,by rw[aj q2];rfl⟩
    have m1:=fun T=>dH (P:=prog) T 54 38 i0 _ underlying54 hi az l.length 6 aS (by rw[aT];omega) (by omega);obtain⟨C,S⟩:∃C,C=madeCells (agg #[string ⟨#[]⟩,int i64 0,int i64 0,string ⟨#[]⟩,int i64 0,int i64 0]).cells (l.length*6):=⟨_,rfl⟩
    have ac:Hid (C=(iI (j5 l 0)).toArray):=(by show _=_;rw[S,Jn,MD]);rw[<-S]at m1;clear S hN hS;have ap:Hid _:=B.symm;clear B;(go_upto_region 4 with fail);rw[ap.out];go_region_held3 (fun u=>u.cell? ⟨a.heap.size,0,none⟩=some (slice (H 6).ao l.length (H 6).cap)/\u.cell? ⟨a.heap.size,1,none⟩=some (slice m p n)) (go_keep) (first | (go_at_call 81;refine(an.out _ (by first | exact(aa.refl [] g).drew | exact((aa.refl [] g).alloc _).drew | exact(aa.refl [] g).drew.alloc _)).mono ?_;rintro e wc ⟨rfl,U⟩;rw[U]))
    · obtain⟨t,f⟩:∃t,t=((g.alloc (.cells C 38)).alloc (.cells #[slice (H 6).ao l.length (H 6).cap,slice m p n,slice (some ⟨a.heap.size+2,0,none⟩) l.length l.length] 78)).drew:=⟨_,rfl⟩
      have k4:aa [] g t:=(by rw[f];exact(((aa.refl [] _).alloc _).alloc _).drew);have E:t.heap[a.heap.size+2+1]?=some (.cells #[slice (H 6).ao l.length (H 6).cap,slice m p n,slice (some ⟨a.heap.size+2,0,none⟩) l.length l.length] 78):=by
        rw[f];have e1:(g.alloc (.cells C 38)).heap.size=a.heap.size+2+1:=by simp[G]
        have e:=R2 (g.alloc (.cells C 38)) (.cells #[slice (H 6).ao l.length (H 6).cap,slice m p n,slice (some ⟨a.heap.size+2,0,none⟩) l.length l.length] 78);rw[e1]at e;exact(aa.refl [] _).drew.get e (by simp)
      have G4:t.heap[a.heap.size+2]?=some (.cells (iI (j5 l 0)).toArray 38):=by
        rw[f,<-ac.out];have e:=((aa.refl [] (g.alloc (.cells C 38))).alloc (.cells #[slice (H 6).ao l.length (H 6).cap,slice m p n,slice (some ⟨a.heap.size+2,0,none⟩) l.length l.length] 78)).drew.get (R2 _ _) (by simp);rw[G]at e;exact e
      rw[<-f];clear f;have RP:lx t (a.heap.size+2+1) 0 l H (a.heap.size+2) (j5 l 0):=⟨⟨⟨_,_,E,rfl⟩,Q.Wj k4⟩,⟨_,_,E,by rw[xn l 0 (SE _)];rfl⟩,G4⟩;have HJ:Hid _:=(tD (a.heap.size+2+1) 0 (a.heap.size+2) l H t RP Y.out.ok Y.out.prf (by omega) (fun x hx=>by have:=Z.out x hx;omega));have V:=(v.trans k3).trans k4;have A4:=V.get hA (by simp);have F4:=V.get hF (by simp);clear RP U;go_wp2_with fail;refine R0 HJ.out ?_;rintro e X ⟨rfl,L,o⟩;have B5:=o.get E (by simp);have D:=o.get A4 (by simp;omega);have F:=o.get F4 (by simp;omega);obtain⟨b0,b1,b2⟩:=vH B5;obtain⟨a0,a1,a2⟩:=vH D;obtain⟨z0,z1,z2,z3⟩:=cD F;have ya:=am D;have yf:=am F;have z:=ae D;have A:=ae F;have KW:aa [] T X:=by
        have q:=(hK.trans V);exact⟨o.os.trans q.os,o.tape.trans q.tape,o.output.trans q.output,Sc q.size o.size,fun k s _=>(o.block k (R6 s q.size) (by simp;omega)).trans (q.block k s (by simp))⟩
      have KS:=tX X T.heap.size (T.heap.size+1);have K:Hid (hQ X l H):=L.recd.Wv;have J:Hid _:=L.arr;have w:Hid _:=KS;clear L KS B5 D F E A4 F4 G4;go_wp2;exact Sa (v:=tuple #[agg #[slice (H 6).ao l.length (H 6).cap,slice m p n,slice (some ⟨a.heap.size+2,0,none⟩) l.length l.length],agg #[int i64 0,string ⟨#[]⟩,int i64 0,int i64 0]]) (by simp[results,results54,go_sem,a0,a1,a2,z0,z1,z2,z3]) rfl
        ⟨⟨H,a.heap.size+2,⟨m,p,n,rfl⟩,K.out.kept (w.out _ _ _ _ _ _ _) (fun k s=>by have:=Z.out k s;simp;omega),(w.out _ _ _ _ _ _ _).get J.out (by simp;omega),fun k s=>by have:=Z.out k s;omega,by omega⟩,qu KW (RV _) (Vd _) _ _ _ _ _ _ _⟩
    all_goals
      obtain⟨t,f⟩:∃t,t=((g.alloc (.cells #[slice (H 6).ao l.length (H 6).cap,slice m p n,slice (some ⟨a.heap.size+2+1,0,none⟩) l.length l.length] 78)).alloc (.cells C 38)).drew:=⟨_,rfl⟩
      have k4:aa [] g t:=(by rw[f];exact(((aa.refl [] _).alloc _).alloc _).drew);have E:t.heap[a.heap.size+2]?=some (.cells #[slice (H 6).ao l.length (H 6).cap,slice m p n,slice (some ⟨a.heap.size+2+1,0,none⟩) l.length l.length] 78):=by
        rw[f];have e:=((aa.refl [] (g.alloc (.cells #[slice (H 6).ao l.length (H 6).cap,slice m p n,slice (some ⟨a.heap.size+2+1,0,none⟩) l.length l.length] 78))).alloc (.cells C 38)).drew.get (R2 _ _) (by simp);rw[G]at e;exact e
      have G4:t.heap[a.heap.size+2+1]?=some (.cells (iI (j5 l 0)).toArray 38):=by
        rw[f,<-ac.out];have e1:(g.alloc (.cells #[slice (H 6).ao l.length (H 6).cap,slice m p n,slice (some ⟨a.heap.size+2+1,0,none⟩) l.length l.length] 78)).heap.size=a.heap.size+2+1:=by simp[G]
        have e:=R2 (g.alloc (.cells #[slice (H 6).ao l.length (H 6).cap,slice m p n,slice (some ⟨a.heap.size+2+1,0,none⟩) l.length l.length] 78)) (.cells C 38);rw[e1]at e;exact(aa.refl [] _).drew.get e (by simp)
      rw[<-f];clear f;have RP:lx t (a.heap.size+2) 0 l H (a.heap.size+2+1) (j5 l 0):=⟨⟨⟨_,_,E,rfl⟩,Q.Wj k4⟩,⟨_,_,E,by rw[xn l 0 (SE _)];rfl⟩,G4⟩;have HJ:Hid _:=(tD (a.heap.size+2) 0 (a.heap.size+2+1) l H t RP Y.out.ok Y.out.prf (by omega) (fun x hx=>by have:=Z.out x hx;omega));have V:=(v.trans k3).trans k4;have A4:=V.get hA (by simp);have F4:=V.get hF (by simp);clear RP U;go_wp2_with fail;refine R0 HJ.out ?_;rintro e X ⟨rfl,L,o⟩;have B5:=o.get E (by simp);have D:=o.get A4 (by simp;omega);have F:=o.get F4 (by simp;omega);obtain⟨b0,b1,b2⟩:=vH B5;obtain⟨a0,a1,a2⟩:=vH D;obtain⟨z0,z1,z2,z3⟩:=cD F;have ya:=am D;have yf:=am F;have z:=ae D;have A:=ae F;have KW:aa [] T X:=by
        have q:=(hK.trans V);exact⟨o.os.trans q.os,o.tape.trans q.tape,o.output.trans q.output,Sc q.size o.size,fun k s _=>(o.block k (R6 s q.size) (by simp;omega)).trans (q.block k s (by simp))⟩
      have KS:=tX X T.heap.size (T.heap.size+1);have K:Hid (hQ X l H):=L.recd.Wv;have J:Hid _:=L.arr;have w:Hid _:=KS;clear L KS B5 D F E A4 F4 G4;go_wp2;exact Sa (v:=tuple #[agg #[slice (H 6).ao l.length (H 6).cap,slice m p n,slice (some ⟨a.heap.size+2+1,0,none⟩) l.length l.length],agg #[int i64 0,string ⟨#[]⟩,int i64 0,int i64 0]]) (by simp[results,results54,go_sem,a0,a1,a2,z0,z1,z2,z3]) rfl
        ⟨⟨H,a.heap.size+2+1,⟨m,p,n,rfl⟩,K.out.kept (w.out _ _ _ _ _ _ _) (fun k s=>by have:=Z.out k s;simp;omega),(w.out _ _ _ _ _ _ _).get J.out (by simp;omega),fun k s=>by have:=Z.out k s;omega,by omega⟩,qu KW (RV _) (Vd _) _ _ _ _ _ _ _⟩
structure wj(w:World)(x:Nat)(fs:Fs)(l:List St)(H:Nat->Hd)(g:Nat):Prop where
  ver:∃(a7:Option Addr) (n7 c7:Nat),je w x fs true (slice (H 6).ao l.length (H 6).cap) (slice a7 n7 c7) (slice (some ⟨g,0,none⟩) l.length l.length)
  Wv:hQ w l H
  arr:w.heap[g]?=some (.cells (iI (ev l l.length)).toArray 38)
  far:x≠g/\∀k,gO H k->k≠x
theorem wj.anyR(h:wj n f z5 x L I):lE n f z5:=by
  obtain⟨a,c,b,h⟩:=h.ver;exact h.anyR
theorem wj.tellA(h:wj n f z5 x L I):rJ n f 10 I (ev x x.length):=by
  obtain⟨b,d,c,a⟩:=h.ver;refine⟨⟨_,_,a.1,?_⟩,h.arr⟩;rw[lR];rfl
set_option maxRecDepth 512
theorem FZ(h:kg T b d) :
    Calls prog 39 #[pointer (some ⟨b,0,none⟩)] T fun e g=>e=returned (slice none 0 0)/\g=T:=by
  have f:=(je.cells h).2.2.2;have c:=Kf b 10 T f;have a:Hid _:=c;clear c f;go_enter func39,ntmps39;go_wp2_with fail;refine R0 a.out ?_;rintro e i ⟨rfl,rfl⟩;go_wp2;go_ret;exact⟨rfl,rfl⟩
theorem KG(h:wj T b d w o D)(m:w.length<=10000) :
    Calls prog 39 #[pointer (some ⟨b,0,none⟩)] T fun e g=>∃a:Option Nat,e=returned (M7 a (Dg w).length)/\Lc g a (Dg w)/\(∀k,a=some k->T.heap.size<=k)/\aa [] T g:=by
  have f:=Ke b 10 D (ev w w.length) T h.tellA (by rw[lR];exact m);have c:Hid _:=f;clear f;go_enter func39,ntmps39;go_wp2_with fail;refine R0 c.out ?_;rintro e n ⟨a,rfl,i,j,l⟩;go_wp2;go_ret;exact⟨a,rfl,i,j,l⟩
theorem I9(h:aa t n M)(a:n.heap.size<=f)(b c d e:Value) :
    aa t n ((((M.setCell ⟨f,0,none⟩ b).setCell ⟨f,1,none⟩ c).setCell ⟨f,2,none⟩ d).setCell ⟨f,3,none⟩ e) :=
  (((h.setCell (RZ a) _).setCell (RZ a) _).setCell (RZ a) _).setCell (RZ a) _
theorem wX :
    aa [D] m ((((m.setCell ⟨D,0,none⟩ z6).setCell ⟨D,1,none⟩ z7).setCell ⟨D,2,none⟩ zb).setCell ⟨D,3,none⟩ zt) :=
  ((((aa.refl [D] m).setCell (R4 (by simp)) _).setCell (R4 (by simp)) _).setCell (R4 (by simp)) _).setCell (R4 (by simp)) _
theorem rQ(h:aa t n M)(a:f∈t∨n.heap.size<=f)(b:I∈t∨n.heap.size<=I)(c d e g i j k l:Value) :
    aa t n ((((((((M.setCell ⟨f,9,none⟩ c).setCell ⟨f,10,none⟩ d).setCell ⟨f,11,none⟩ e).setCell ⟨f,12,none⟩ g).setCell ⟨I,0,none⟩ i).setCell ⟨I,1,none⟩ j).setCell ⟨I,2,none⟩ k).setCell ⟨I,3,none⟩ l) :=
  (((((((h.setCell a _).setCell a _).setCell a _).setCell a _).setCell b _).setCell b _).setCell b _).setCell b _
def Gr(fs:Fs)(k0 x:Nat)(w:World)(e:Ending)(w':World):Prop :=
  (if((cv fs k0).1.1==0)=true then e=returned (tuple #[ij cM,int i64 0])/\∃H g,wj w' x fs (cv fs k0).2.2.Wv H g/\w.heap.size<=g/\∀k,gO H k->w.heap.size<=k
   else e=returned (tuple #[ij (cv fs k0).1,int i64 6])/\kg w' x fs)/\aa [x] w w'
set_option maxRecDepth 100000
theorem FY(n:ByteArray)(w:World)(h:lE w y d)(hf:bM d n=b)(P:b<d.length)(S:∀j,j<d.length->(ak d j).size<=1024) :
    Calls prog 37 #[pointer (some ⟨y,0,none⟩),string n] w fun e T=>Gr d b y w e T:=by
  have al:=h.lt;obtain⟨W,C⟩:∃W,W=w.alloc (.cells #[int i64 0,string ⟨#[]⟩,int i64 0,int i64 0] 87):=⟨_,rfl⟩
  have hK:=fN C.symm;have hF:W.heap[w.heap.size]?=some (.cells bD 87):=by rw[C];exact R2 _ _
  have B:=h.kept hK (by simp);have HW:Hid _:=C.symm;have X:Calls prog 51 #[pointer (some ⟨y,0,none⟩),string n] W fun e T=>e=returned (int i64 b)/\T=W:=by
    obtain⟨ax,a,az,c,hv⟩:=B;rw[<-hf];exact ma y _ d _ n W hv
  have I:Hid _:=X;have V:=wJ y d W B;have G:Hid _:=V;clear X V C;have ag:¬((b:Int)<0):=by omega
  have K:=fun(U:World) (m:kg U y d)=>Qp y _ b d _ U m P S;unfold DV at K;have u:Hid _:=K;clear K;unfold Gr;generalize cv d b=R at *;obtain⟨⟨r,pf,pl,pc⟩,af,d'⟩:=R;simp only[ij,cM]at u ⊢;generalize d'.Wv=l at *;go_enter func37,ntmps37;go_wp2_with fail;rw[HW.out];refine R0 I.out ?_;rintro e w9 ⟨rfl,rfl⟩;go_wp2_with fail;refine R0 G.out ?_;rintro e U ⟨rfl,m,t⟩;have O:=t.get hF (by simp;omega);go_wp2_with fail;refine R0 (u.out _ m) ?_;rintro e A ⟨f,o⟩;have s:=o.get O (by simp);have i:=m.kept o (by simp);have x:aa [y] w A:=((hK.mono (by simp)).trans t).trans (o.mono (by simp));obtain⟨z0,z1,z2,z3⟩:=cD s;have yf:=am s;have p:=ae s;have ai:w.heap.size≠y:=by omega
  have ac:y≠w.heap.size:=by omega
  cases D:(r==0)
  · have Q:(r != 0)=true:=by simp[bne,D]
    simp only[D,Bool.false_eq_true,if_false]at f ⊢;subst f;have F:Hid _:=i;clear i m B;go_wp2;exact Sa (v:=tuple #[agg #[int i64 r,string pf,int i64 pl,int i64 pc],int i64 6]) (by simp[results,results37,go_sem,z0,z1,z2,z3,p]) rfl
      ⟨⟨rfl,F.out.kept (((wX A w.heap.size _ _ _ _).alloc _).alloc _) (by simp;omega)⟩,((I9 x (RV _) _ _ _ _).alloc _).alloc _⟩
  · have Q:(r != 0)=false:=by simp[bne,D]
    simp only[D,if_true]at f ⊢;obtain⟨H,g,Z,n7,c7,rfl,hS,hA,hN,hg⟩:=f;have ar:=ae hF;have an:=t.size;have ap:=o.size;obtain⟨c9,L,M,N⟩:=je.cells i;have yv:=bF.free i;have Y:Hid _:=je.turn i true (slice (H 6).ao l.length (H 6).cap) (slice Z n7 c7) (slice (some ⟨g,0,none⟩) l.length l.length);have J:Hid _:=hS;have E:Hid _:=hA;have q:Hid _:=hN;have ad:y<A.heap.size:=bF.lt i;clear i m B hS hA hN;unfold OB at L M N;unfold DD at Y;go_wp2;exact Sa (v:=tuple #[agg #[int i64 0,string ⟨#[]⟩,int i64 0,int i64 0],int i64 0]) (by simp[results,results37,go_sem,z0,z1,z2,z3,p]) rfl
      ⟨⟨rfl,H,g,⟨⟨Z,n7,c7,bF.kept Y.out (((wX _ w.heap.size _ _ _ _).alloc _).alloc _) (by simp;omega)⟩,J.out.kept (((rQ (aa.refl [y,w.heap.size] A) (R4 (by simp)) (R4 (by simp)) _ _ _ _ _ _ _ _).alloc _).alloc _) (fun k z=>by have:=q.out k z;simp;omega),(((rQ (aa.refl [y,w.heap.size] A) (R4 (by simp)) (R4 (by simp)) _ _ _ _ _ _ _ _).alloc _).alloc _).get E.out (by simp;omega),⟨by omega,fun k z=>by have:=q.out k z;omega⟩⟩,by omega,fun k z=>by have:=q.out k z;omega⟩,
        ((rQ x (R4 (by simp)) (RZ (RV _)) _ _ _ _ _ _ _ _).alloc _).alloc _⟩
structure Rr(s:St):Prop where
 label:s.label.size<=100000
 syms:∀x∈s.We,x.size<=100000
def Bh(l:List St)(n:Nat):Option ByteArray:=match l[n]? with
 | some s=>if(s.kind==2)=true then some (aL s) else none
 | none=>none
def ud(l:List St)(hs:List Nat):List ByteArray:=hs.filterMap (Bh l)
end Go.Proofs.YtnbhnocdhbcbcaaGreat
