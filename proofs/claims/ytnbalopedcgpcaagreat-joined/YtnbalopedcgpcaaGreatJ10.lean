import Derived.Test.YtnbalopedcgpcaaGreatJ09
namespace Go.Proofs.YtnbalopedcgpcaaGreat
open Go.RowKit Tryz
open Value IntKind Ending
set_option linter.all false
set_option maxHeartbeats 0
variable(w:Vq)(b:World)
theorem Ad(p:w.size<=4294967296) :
  br 55 #[J w,J ⟨#[36,91]⟩] b (gG (bool (dU w)) b):=by
 go_enter func55,ntmps55;go_wp2;go_loopg [5] w.size (λg i wr=>∃k:Nat,k<=w.size/\g=w.size-k/\i=Y k/\Z (∀i,i<k->i+2<=w.size->xH w i=false)/\wr=b);{exact⟨0,by omega,by omega,rfl,λi h=>by omega,rfl⟩};obtain⟨k,n,m,rfl,a,rfl⟩:=hrel;by_cases f:k+2<=w.size;{cases j:((w.extract k (k+2)).toList == [36,91]);{go_wp2;go_roundg (w.size-(k+1));{refine⟨k+1,by omega,rfl,by go_num,?_,rfl⟩;intro i l c;by_cases e:i=k;{subst e;exact j};{exact a i (by omega) c}};omega};{have d:Z (dU w=true):=uD k (by omega) (by simp[f,xH,j]);go_wp2;go_ret;exact⟨aT d.o.symm,rfl⟩}}
 ·have d:Z (dU w=false):=zk (λi l=>by
   by_cases c:i+2<=w.size
   ·simp[a.o i (by omega) c]
   ·simp[c])
  go_wp2;go_ret;exact⟨aT d.o.symm,rfl⟩
theorem Pa(q:w.size<=1073741824) :
  br 57 #[J w] b (gG (Y (ba w w.size-1)) b):=by go_enter func57,ntmps57;go_wp2;go_loopg [3,4] w.size (λg m i wr=>∃(k:Nat) (l:Int),k<=w.size/\g=w.size-k/\i=Y k/\m=Y l/\Z (l=ba w k-1)/\0<=l/\l<=k/\wr=b);{exact⟨0,0,by omega,by omega,rfl,rfl,rfl,by omega,by omega,rfl⟩};obtain⟨k,l,p,n,rfl,rfl,d,e,j,rfl⟩:=hrel;by_cases c:k<w.size;{cases f:((w[k].toNat:Int)==10);{have a:Z (l=ba w (k+1)-1):=(by show l=_;rw[ba,bA w k c,f,d.o];simp);go_wp2;go_roundg (w.size-(k+1));{exact⟨k+1,l,by omega,rfl,by go_num,rfl,a,e,by omega,rfl⟩};omega};{have a:Z (l+1=ba w (k+1)-1):=(by show l+1=_;rw[ba,bA w k c,f,d.o];simp);go_wp2;go_roundg (w.size-(k+1));{exact⟨k+1,l+1,by omega,rfl,by go_num,rfl,a,by omega,by omega,rfl⟩};omega}};{(have a:Z (l=ba w w.size-1):=by show l=_;rw[d.o,show k=w.size by omega]);go_wp2;go_ret;exact⟨aH a,rfl⟩}
def kB(w:World)(b off:Nat)(l:Vs):Prop:=b<w.heap.size/\∀i (h:i<l.length),w.cell? (X b (off+i))=some (J l[i])
theorem kB.ZE{w d:World}{b a:Nat}{l:Vs}{S:Vu}(h:kB w b a l)(c:ab S w d)(e:b∉S):kB d b a l :=
 ⟨VD h.1 c.size,λi f=>(WE (c.block b h.1 e)).trans (h.2 i f)⟩
def tC(l:Vs):Nat->Int
 | 0=>l.length
 | k+1=>tC l k+(l.getD k ⟨#[]⟩).size
theorem Vb(l:Vs)(k:Nat):(l.length:Int)<=tC l k/\∀i,i<k->((l.getD i ⟨#[]⟩).size:Int)<=tC l k:=by induction k with|zero=>simp[tC]|succ k a=>rw[tC];refine⟨by omega,λi b=>?_⟩;by_cases e:i=k;{subst e;omega};{have:=a.2 i (by omega);omega}
theorem Qs(b c f:Nat)(l:Vs)(w:World)(E:l.length<=140737488351232)(j:∀x,x∈l->x.size<=140737488351232)(q:kB w b c l) :
  br 6 #[Q (some (X b c)) l.length f] w λe v=>(∃r,e=cA (bool r)/\(r=true->l.length<=1073741824/\∀i,i<l.length->(l.getD i ⟨#[]⟩).size<=1073741824))/\v=w:=by by_cases A:1073741824<l.length;{go_enter func6,ntmps6;go_wp2;go_ret;exact⟨⟨false,rfl,by simp⟩,rfl⟩};{go_enter func6,ntmps6;go_wp2;go_loopg [3,4] l.length (λg m i wr=>∃(k:Nat) (z:Int),k<=l.length/\g=l.length-k/\i=Y k/\m=Y z/\Z (z=tC l k)/\0<=z/\z<=1073741824/\wr=w);{exact⟨0,l.length,by omega,by omega,rfl,rfl,rfl,by omega,by omega,rfl⟩};obtain⟨k,z,D,C,rfl,rfl,n,t,u,rfl⟩:=hrel;by_cases a:k<l.length;{have y:=q.2 k a;have p:l.getD k ⟨#[]⟩=l[k]:=(by rw[Vy,Vv a];rfl);have F:=j l[k] (VR a);have d:Z (tC l (k+1)=z+(l[k]).size):=(by show tC l (k+1)=_;rw[tC,p,n.o]);by_cases B:(1073741824:Int)<z+(l[k]).size;{go_wp2;go_ret;exact⟨⟨false,rfl,by simp⟩,rfl⟩};{go_wp2;go_roundg (l.length-(k+1));{exact⟨k+1,z+(l[k]).size,by omega,rfl,by go_num,rfl,d.o.symm,by omega,by omega,rfl⟩};omega}};{have d:Z (z=tC l l.length):=(by show z=_;rw[n.o,show k=l.length by omega]);go_wp2;go_ret;refine⟨⟨true,rfl,λ_=>⟨by omega,λi s=>?_⟩⟩,rfl⟩;have:=(Vb l l.length).2 i s;rw[<-d.o]at this;omega}}
end Go.Proofs.YtnbalopedcgpcaaGreat
