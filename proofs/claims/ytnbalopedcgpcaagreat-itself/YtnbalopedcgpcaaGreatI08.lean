import Derived.Test.YtnbalopedcgpcaaGreatI07
namespace Go.Proofs.YtnbalopedcgpcaaGreat
open Go.RowKit Tryz
open Value IntKind Ending
set_option linter.all false
set_option maxHeartbeats 0
variable(w:Vq)(b:World)
theorem yQ(p:w.size<=4294967296) :
  bF 55 #[an w,an ⟨#[36,91]⟩] b (ij (bool (dV w)) b):=by
 go_enter func55,ntmps55;go_wp2;go_loopg [5] w.size (λg i wr=>∃k:Nat,k<=w.size/\g=w.size-k/\i=J k/\Z (∀i,i<k->i+2<=w.size->vN w i=false)/\wr=b);{exact⟨0,by omega,by omega,rfl,λi h=>by omega,rfl⟩};obtain⟨k,n,m,rfl,a,rfl⟩:=hrel;by_cases f:k+2<=w.size;{cases j:((w.extract k (k+2)).toList == [36,91]);{go_wp2;go_roundg (w.size-(k+1));{refine⟨k+1,by omega,rfl,by go_num,?_,rfl⟩;intro i l c;by_cases e:i=k;{subst e;exact j};{exact a i (by omega) c}};omega};{have d:Z (dV w=true):=tj k (by omega) (by simp[f,vN,j]);go_wp2;go_ret;exact⟨aT d.o.symm,rfl⟩}}
 ·have d:Z (dV w=false):=xD (λi l=>by
   by_cases c:i+2<=w.size
   ·simp[a.o i (by omega) c]
   ·simp[c])
  go_wp2;go_ret;exact⟨aT d.o.symm,rfl⟩
theorem MY(q:w.size<=1073741824) :
  bF 57 #[an w] b (ij (J (aV w w.size-1)) b):=by go_enter func57,ntmps57;go_wp2;go_loopg [3,4] w.size (λg m i wr=>∃(k:Nat) (l:Int),k<=w.size/\g=w.size-k/\i=J k/\m=J l/\Z (l=aV w k-1)/\0<=l/\l<=k/\wr=b);{exact⟨0,0,by omega,by omega,rfl,rfl,rfl,by omega,by omega,rfl⟩};obtain⟨k,l,p,n,rfl,rfl,d,e,j,rfl⟩:=hrel;by_cases c:k<w.size;{cases f:((w[k].toNat:Int)==10);{have a:Z (l=aV w (k+1)-1):=(by show l=_;rw[aV,aR w k c,f,d.o];simp);go_wp2;go_roundg (w.size-(k+1));{exact⟨k+1,l,by omega,rfl,by go_num,rfl,a,e,by omega,rfl⟩};omega};{have a:Z (l+1=aV w (k+1)-1):=(by show l+1=_;rw[aV,aR w k c,f,d.o];simp);go_wp2;go_roundg (w.size-(k+1));{exact⟨k+1,l+1,by omega,rfl,by go_num,rfl,a,by omega,by omega,rfl⟩};omega}};{(have a:Z (l=aV w w.size-1):=by show l=_;rw[d.o,show k=w.size by omega]);go_wp2;go_ret;exact⟨aB a,rfl⟩}
def jZ(w:World)(b off:Nat)(l:Vs):Prop:=b<w.heap.size/\∀i (h:i<l.length),w.cell? (aq b (off+i))=some (an l[i])
theorem jZ.Z0{w d:World}{b a:Nat}{l:Vs}{S:Vu}(h:jZ w b a l)(c:aa S w d)(e:b∉S):jZ d b a l :=
 ⟨VW h.1 c.size,λi f=>(Xp (c.block b h.1 e)).trans (h.2 i f)⟩
def rY(l:Vs):Nat->Int
 | 0=>l.length
 | k+1=>rY l k+(l.getD k ⟨#[]⟩).size
theorem RM(l:Vs)(k:Nat):(l.length:Int)<=rY l k/\∀i,i<k->((l.getD i ⟨#[]⟩).size:Int)<=rY l k:=by induction k with|zero=>simp[rY]|succ k a=>rw[rY];refine⟨by omega,λi b=>?_⟩;by_cases e:i=k;{subst e;omega};{have:=a.2 i (by omega);omega}
theorem N5(b c f:Nat)(l:Vs)(w:World)(E:l.length<=140737488351232)(j:∀x,x∈l->x.size<=140737488351232)(q:jZ w b c l) :
  bF 6 #[Y (some (aq b c)) l.length f] w λe v=>(∃r,e=dw (bool r)/\(r=true->l.length<=1073741824/\∀i,i<l.length->(l.getD i ⟨#[]⟩).size<=1073741824))/\v=w:=by by_cases A:1073741824<l.length;{go_enter func6,ntmps6;go_wp2;go_ret;exact⟨⟨false,rfl,by simp⟩,rfl⟩};{go_enter func6,ntmps6;go_wp2;go_loopg [3,4] l.length (λg m i wr=>∃(k:Nat) (z:Int),k<=l.length/\g=l.length-k/\i=J k/\m=J z/\Z (z=rY l k)/\0<=z/\z<=1073741824/\wr=w);{exact⟨0,l.length,by omega,by omega,rfl,rfl,rfl,by omega,by omega,rfl⟩};obtain⟨k,z,D,C,rfl,rfl,n,t,u,rfl⟩:=hrel;by_cases a:k<l.length;{have y:=q.2 k a;have p:l.getD k ⟨#[]⟩=l[k]:=(by rw[Vz,Vv a];rfl);have F:=j l[k] (VZ a);have d:Z (rY l (k+1)=z+(l[k]).size):=(by show rY l (k+1)=_;rw[rY,p,n.o]);by_cases B:(1073741824:Int)<z+(l[k]).size;{go_wp2;go_ret;exact⟨⟨false,rfl,by simp⟩,rfl⟩};{go_wp2;go_roundg (l.length-(k+1));{exact⟨k+1,z+(l[k]).size,by omega,rfl,by go_num,rfl,d.o.symm,by omega,by omega,rfl⟩};omega}};{have d:Z (z=rY l l.length):=(by show z=_;rw[n.o,show k=l.length by omega]);go_wp2;go_ret;refine⟨⟨true,rfl,λ_=>⟨by omega,λi s=>?_⟩⟩,rfl⟩;have:=(RM l l.length).2 i s;rw[<-d.o]at this;omega}}
end Go.Proofs.YtnbalopedcgpcaaGreat
