import Derived.Test.YtpddjjabfbfifaaGreatG16
namespace Go.Proofs.YtpddjjabfbfifaaGreat
open Go.RowKit
set_option maxHeartbeats 40000000
structure jk(w:World)(b o:Nat)(l:List St)(H:Nat->Hd)(g:Nat)(L:List Rw):Prop where
 recd:eu w b o l H
 cell:∃arr t,w.heap[b]?=some (.cells arr t (0,0))/\arr[o+2]?=some (.slice (some ⟨g,0,none⟩) L.length L.length)
 arr:w.heap[g]?=some (.cells (jz L).toArray 38 (0,0))
theorem jk.still{w w':World}{b o:Nat}{l:List St}{H:Nat->Hd}{g:Nat}{L:List Rw}(h:jk w b o l H g L)(k:ab [] w w'):jk w' b o l H g L:=by
 obtain⟨arr,t,h1,h2⟩:=h.cell;exact⟨h.recd.still k,⟨arr,t,k.get h1 (by simp),h2⟩,k.get h.arr (by simp)⟩
theorem jk.at2{w:World}{b o:Nat}{l:List St}{H:Nat->Hd}{g:Nat}{L:List Rw}(h:jk w b o l H g L):w.cell? ⟨b,o+2,none⟩=some (.slice (some ⟨g,0,none⟩) L.length L.length):=by
 obtain⟨arr,t,h1,h2⟩:=h.cell;rw[aa h1];exact h2
theorem jk.row{w:World}{b o:Nat}{l:List St}{H:Nat->Hd}{g:Nat}{L:List Rw}(h:jk w b o l H g L)(k:Nat)(hk:k<L.length) :
  w.cell? ⟨g,k*6,none⟩=some (.string L[k].label)/\w.cell? ⟨g,k*6+1,none⟩=some (.int .i64 L[k].verdict)/\w.cell? ⟨g,k*6+2,none⟩=some (.int .i64 L[k].why)/\w.cell? ⟨g,k*6+3,none⟩=some (.string L[k].at_.file)/\w.cell? ⟨g,k*6+4,none⟩=some (.int .i64 L[k].at_.line)/\w.cell? ⟨g,k*6+5,none⟩=some (.int .i64 L[k].at_.col):=by
 have c:=fun j (hj:j<6) v (hv:(lr L[k])[j]?=some v)=>(aa h.arr (k*6+j)).trans ((by simp only[List.getElem?_toArray];exact(CX L k hk j hj).trans hv))
 exact⟨c 0 (by omega) _ rfl,c 1 (by omega) _ rfl,c 2 (by omega) _ rfl,c 3 (by omega) _ rfl,c 4 (by omega) _ rfl,c 5 (by omega) _ rfl⟩
def m8(L:List Rw)(n:Nat):Int:=(L.getD n nZ).verdict
theorem zV(b o n:Nat)(l:List St)(H:Nat->Hd)(g:Nat)(L:List Rw)(w:World)(h:jk w b o l H g L) :
  Calls Tryz.prog 95 #[.pointer (some ⟨b,o,none⟩),.int .i64 n] w fun e w'=>e=.returned (.int .i64 (m8 L n))/\w'=w:=by
 have c2:=h.at2
 by_cases hlt:n<L.length
 ·have HV:Hid (m8 L n=L[n].verdict):=by show _=_;unfold m8;rw[List.getD_eq_getElem?_getD,List.getElem?_eq_getElem hlt];rfl
  obtain⟨-,c3,-,-,-,-⟩:=h.row n hlt;have hlti:¬((n:Int) ≥ L.length):=by omega
  go_enter Tryz.func95,Tryz.ntmps95;go_wp2;go_ret;exact⟨am (by rw[HV.out]),rfl⟩
 ·have HV:Hid (m8 L n=0):=by show _=_;unfold m8;rw[List.getD_eq_getElem?_getD,List.getElem?_eq_none (by omega)];rfl
  have hlti:(n:Int) ≥ L.length:=by omega
  go_enter Tryz.func95,Tryz.ntmps95;go_wp2;go_ret;exact⟨am (by rw[HV.out]),rfl⟩
def BU(steps:List lW):Option Nat:=(List.range steps.length).find? (fun i=>match steps[i]? with | some s=>s.kind==1 | none=>false)
theorem qP(hd:Hd)(steps:List lW)(w:World)(ho:aA w hd (fq steps))(hl:steps.length<=1073741824) :
  Calls Tryz.prog 161 #[.slice hd.ao steps.length hd.cap] w fun e w'=>e=.returned (.int .i64 (nK (BU steps)))/\w'=w:=by
 obtain⟨AO,HAO⟩:∃AO,Hid (hd.ao=AO):=⟨_,rfl⟩
 rw[HAO.out];go_enter Tryz.func161,Tryz.ntmps161;go_wp2
 go_loopg [3] steps.length (fun g i wr=>∃k:Nat,k<=steps.length/\g=steps.length-k/\i=.int .i64 k/\Hid (∀i,i<k->(match steps[i]? with | some s=>s.kind==1 | none=>false)=false)/\wr=w)
 case atStart=>exact⟨0,by omega,by omega,rfl,fun i hi=>by omega,rfl⟩
 case round =>
  obtain⟨k,hk,hg,rfl,hall,rfl⟩:=hrel
  by_cases hlt:k<steps.length
  ·obtain⟨gp,ep,ecap,ecap2,d0,-⟩:=ho.step k hlt
   obtain rfl:AO=some ⟨gp,0,none⟩:=HAO.out.symm.trans ep;clear ep;have HG:Hid (steps[k]?=some steps[k]):=List.getElem?_eq_getElem hlt;generalize steps[k]=st at *
   cases hb:(st.kind==1)
   ·have HN:Hid (∀i,i<k+1->(match steps[i]? with | some s=>s.kind==1 | none=>false)=false):=by
     intro i hi
     by_cases e:i=k
     ·subst e;rw[HG.out];exact hb
     ·exact hall.out i (by omega)
    clear HG hall;go_wp2
    go_roundg (steps.length-(k+1))
    case measure=>omega
    case rel=>exact⟨k+1,by omega,rfl,by go_num,HN,rfl⟩
   ·have HF:Hid (BU steps=some k):=oh hlt (by rw[HG.out];exact hb) hall.out
    clear HG hall;go_wp2;go_ret;exact⟨am (by rw[HF.out];rfl),rfl⟩
  ·have HF:Hid (BU steps=none):=mR (fun i hi=>hall.out i (by omega))
   clear hall;go_wp2;go_ret;exact⟨am (by rw[HF.out];rfl),rfl⟩
def Ak(v:Int):Bool:=v==2||v==3||v==4
def ni(L:List Rw)(steps:List lW):Bool:=steps.all (fun s=>!(s.kind==2) || !(Ak (m8 L s.number)))
theorem JD(L:List Rw)(steps:List lW)(k:Nat)(hk:k<steps.length)(h1:(steps[k].kind==2)=true)(h2:Ak (m8 L steps[k].number)=true):ni L steps=false:=by
 cases e:ni L steps
 ·rfl
 ·unfold ni at e;rw[List.all_eq_true]at e
  have:=e _ (List.getElem_mem hk);rw[h1,h2]at this;cases this
theorem G1(L:List Rw)(steps:List lW)(h:∀k (hk:k<steps.length),(!(steps[k].kind==2) || !(Ak (m8 L steps[k].number)))=true):ni L steps=true:=by
 unfold ni;rw[List.all_eq_true];intro x hx;obtain⟨k,hk,rfl⟩:=List.getElem_of_mem hx;exact h k hk
theorem G0(b o:Nat)(l:List St)(H:Nat->Hd)(g:Nat)(L:List Rw)(hd:Hd)(steps:List lW)(w:World)(h:jk w b o l H g L)(ho:aA w hd (fq steps))(hsl:steps.length<=1100000) :
  Calls Tryz.prog 163 #[.pointer (some ⟨b,o,none⟩),.slice hd.ao steps.length hd.cap] w fun e w'=>e=.returned (.bool (ni L steps))/\w'=w:=by
 obtain⟨AO,HAO⟩:∃AO,Hid (hd.ao=AO):=⟨_,rfl⟩
 rw[HAO.out];go_enter Tryz.func163,Tryz.ntmps163;go_wp2
 go_loopg [5] steps.length (fun g i wr=>∃k:Nat,k<=steps.length/\g=steps.length-k/\i=.int .i64 k/\Hid (∀i (hi:i<steps.length),i<k->(!(steps[i].kind==2) || !(Ak (m8 L steps[i].number)))=true)/\wr=w)
 case atStart=>exact⟨0,by omega,by omega,rfl,fun i _ hi=>by omega,rfl⟩
 case round =>
  obtain⟨k,hk,hg,rfl,hall,rfl⟩:=hrel
  by_cases hlt:k<steps.length
  ·obtain⟨gp,ep,ecap,ecap2,d0,d1,-⟩:=ho.step k hlt
   obtain rfl:AO=some ⟨gp,0,none⟩:=HAO.out.symm.trans ep;clear ep
   have HNX:Hid ((!(steps[k].kind==2) || !(Ak (m8 L steps[k].number)))=true->∀i (hi:i<steps.length),i<k+1->(!(steps[i].kind==2) || !(Ak (m8 L steps[i].number)))=true):=by
    intro hh i hi hik
    by_cases e:i=k
    ·subst e;exact hh
    ·exact hall.out i hi (by omega)
   have HNO:=(show Hid _ from JD L steps k hlt);have VE:=zV b o steps[k].number l H g L wr h;clear hall;generalize steps[k]=st at *
   cases hb:(st.kind==2)
   ·have hb':(st.kind != 2)=true:=by simp[bne,hb]
    have HN:=(show Hid _ from HNX.out (by rw[hb];rfl));clear HNX HNO VE;go_wp2
    go_roundg (steps.length-(k+1))
    case measure=>omega
    case rel=>exact⟨k+1,by omega,rfl,by go_num,HN.out,rfl⟩
   ·have hb':(st.kind != 2)=false:=by simp[bne,hb]
    have HBV:Hid (∀v,Ak v=(v==2||v==3||v==4)):=fun _=>rfl
    generalize m8 L st.number=V at *
    cases h2:(V==2)
    ·cases h3:(V==3)
     ·cases h4:(V==4)
      ·have HN:=(show Hid _ from HNX.out (by rw[HBV.out,h2,h3,h4];simp))
       clear HNX HNO;go_wp2_with (go_at_call 95;refine VE.mono ?_;rintro e w3 ⟨rfl,hw3⟩;rw[hw3])
       go_roundg (steps.length-(k+1))
       case measure=>omega
       case rel=>exact⟨k+1,by omega,rfl,by go_num,HN.out,rfl⟩
      ·have HF:=(show Hid _ from HNO.out hb (by rw[HBV.out,h2,h3,h4];rfl))
       clear HNX HNO;go_wp2_with (go_at_call 95;refine VE.mono ?_;rintro e w3 ⟨rfl,hw3⟩;rw[hw3]);go_ret;exact⟨aB HF.out.symm,rfl⟩
     ·have HF:=(show Hid _ from HNO.out hb (by rw[HBV.out,h2,h3];rfl))
      clear HNX HNO;go_wp2_with (go_at_call 95;refine VE.mono ?_;rintro e w3 ⟨rfl,hw3⟩;rw[hw3]);go_ret;exact⟨aB HF.out.symm,rfl⟩
    ·have HF:=(show Hid _ from HNO.out hb (by rw[HBV.out,h2];rfl))
     clear HNX HNO;go_wp2_with (go_at_call 95;refine VE.mono ?_;rintro e w3 ⟨rfl,hw3⟩;rw[hw3]);go_ret;exact⟨aB HF.out.symm,rfl⟩
  ·have HF:Hid (ni L steps=true):=G1 L steps (fun i hi=>hall.out i hi (by omega))
   clear hall;go_wp2;go_ret;exact⟨aB HF.out.symm,rfl⟩
theorem vK{l:List St}{t:ByteArray}{a n:Nat}(h:lg l t a=some n):n<l.length:=by
 unfold lg at h;have:=List.mem_of_find?_eq_some h;simpa using this
def Cl(l:List St)(s:lW):Prop:=s.number<=1020000/\((s.kind==3)=false->s.number<l.length)
theorem Ej(l:List St)(a:Nat)(fin:Pl)(hl:0<l.length)(hl2:l.length<=10000)(ws:List (ByteArray×Pl))(acc:List lW)(h:∀s∈acc,Cl l s)(N:Nat)(hN:acc.length<=N) :
  (∀s∈(eS l a fin ws acc).1,Cl l s)/\(eS l a fin ws acc).1.length<=N+ws.length:=by
 induction ws generalizing acc N with
 | nil =>
  rw[eS]
  split
  ·exact⟨by simp,by simp⟩
  ·exact⟨h,by simpa using hN⟩
 | cons x r ih =>
  obtain⟨t,p⟩:=x;rw[eS]
  split
  ·have:=ih (acc++[⟨1,0,p⟩]) (by intro s hs;simp at hs;rcases hs with hs | rfl;exact h s hs;exact⟨by simp,fun _=>hl⟩) (N+1) (by simp;omega)
   exact⟨this.1,by have:=this.2;simp;omega⟩
  ·split
   ·exact⟨by simp,by simp⟩
   ·next n hn =>
    have hlt:=vK hn;have:=ih (acc++[⟨2,n,p⟩]) (by intro s hs;simp at hs;rcases hs with hs | rfl;exact h s hs;exact⟨by simp only;omega,fun _=>hlt⟩) (N+1) (by simp;omega);exact⟨this.1,by have:=this.2;simp;omega⟩
structure uV(l:List St)(c:kM):Prop where
 names:∀n∈c.names,n<l.length
 tagged:∀n∈c.tagged,n<=1020000
 steps:∀s∈c.steps,Cl l s
theorem uV.letter{l:List St}{c:kM}{N:Nat}(g:uV l c)(h:fy c N)(hl:0<l.length)(hl2:l.length<=10000)(hN:N<=1020000)(n:Nat)(p:Pl):uV l (cg c n p).2:=by
 have h3:=h.steps;unfold cg
 split
 ·unfold jm dL
  split
  ·next hlt =>
   refine⟨g.names,g.tagged,?_⟩;intro s hs;simp at hs
   rcases hs with hs | rfl
   ·exact g.steps s hs
   ·have:=g.names _ (List.getElem_mem hlt)
    rw[List.getElem?_eq_getElem hlt];exact⟨by simp only[Option.getD_some];omega,fun _=>this⟩
  ·split
   ·next hlt =>
    refine⟨g.names,g.tagged,?_⟩;intro s hs;simp at hs
    rcases hs with hs | rfl
    ·exact g.steps s hs
    ·have:=g.tagged _ (List.getElem_mem hlt)
     rw[List.getElem?_eq_getElem hlt];exact⟨this,fun e=>by simp at e⟩
   ·exact⟨g.names,g.tagged,g.steps⟩
 ·split
  ·unfold lu
   split <;> exact⟨g.names,g.tagged,g.steps⟩
  ·split
   ·refine⟨g.names,?_,g.steps⟩
    intro x hx;simp at hx
    rcases hx with hx | rfl
    ·exact g.tagged x hx
    ·omega
   ·split
    ·refine⟨g.names,g.tagged,?_⟩
     intro s hs;simp[dL]at hs
     rcases hs with hs | rfl
     ·exact g.steps s hs
     ·exact⟨by simp,fun _=>hl⟩
    ·exact g
theorem xP{l:List St}(hl:0<l.length)(hl2:l.length<=10000)(t:ByteArray)(p:Pl)(f:Nat):∀(j:Nat) (c:kM) (N:Nat),uV l c->fy c (N+j)->j<=t.size->N+t.size<=1020000->uV l (gK t p f j c).2:=by
 induction f with
 | zero=>intro j c N g h hj hN;exact g
 | succ f ih =>
  intro j c N g h hj hN;rw[gK]
  split
  ·next hlt =>
   have h2:=h.letter (aF t j).toNat { p with col:=p.col+j };have g2:=g.letter h hl hl2 (by omega) (aF t j).toNat { p with col:=p.col+j }
   split
   ·exact ih (j+1) _ N g2 (by rw[<-Nat.add_assoc];exact h2) (by omega) hN
   ·exact g2
  ·exact g
theorem xQ{l:List St}(hl:0<l.length)(hl2:l.length<=10000)(ws:List (ByteArray×Pl)):∀(c:kM) (N:Nat),uV l c->fy c N->N+jf ws<=1020000->uV l (qx ws c).2/\fy (qx ws c).2 1020000:=by
 induction ws with
 | nil=>intro c N g h hN;exact⟨g,h.mono (by simp[jf]at hN;omega)⟩
 | cons x r ih =>
  intro c N g h hN;obtain⟨t,p⟩:=x;have es:jf ((t,p) :: r)=t.size+jf r:=by simp[jf]
  rw[es]at hN;have g1:uV l (lz t p c).2:=xP hl hl2 t p _ 0 c N g h (Nat.zero_le _) (by omega);have h1:=wA t p h;rw[qx]
  split
  ·exact ih _ (N+t.size) g1 h1 (by omega)
  ·exact⟨g1,h1.mono (by omega)⟩
theorem Ao(l:List St)(a:Nat)(fin:Pl)(ws:List (ByteArray×Pl))(i:Nat)(ns:List Nat)(h:∀n∈ns,n<l.length):∀n∈(db l a fin i ws ns).2,n<l.length:=by
 induction ws generalizing i ns with
 | nil=>exact h
 | cons x r ih =>
  obtain⟨t,p⟩:=x;rw[db]
  split
  ·exact h
  ·split
   ·exact h
   ·next n hn =>
    split
    ·exact h
    ·exact ih (i+1) (ns++[n]) (by intro m hm;simp at hm;rcases hm with hm | rfl;exact h m hm;exact vK hn)
theorem KN(l:List St)(a:Nat)(ok:jH l)(ha:a<l.length)(okp:vw l[a]):Co l (jW l a l[a]).1:=by
 have hl:0<l.length:=by omega
 have hp:=ok.prfs a ha;have hsz:=okp.size
 have key:(∀s∈(jW l a l[a]).1,Cl l s)/\(jW l a l[a]).1.length<=1100000:=by
  unfold jW
  split
  ·unfold kj Cw
   have c0:=yn l a l[a] ok.len hp;have g0:uV l ⟨(db l a l[a].fin 1 (l[a].proof.drop 1) (bE l a)).2,[],[],0,false⟩:=⟨Ao l a l[a].fin _ 1 _ (fun n hn=>yR hn),by simp,by simp⟩;generalize db l a l[a].fin 1 (l[a].proof.drop 1) (bE l a)=BL at *;obtain⟨⟨nx,bf⟩,ns⟩:=BL;simp only at c0 g0 ⊢
   have tX:uV l (CQ bf (l[a].proof.drop nx) ⟨ns,[],[],0,false⟩).2/\fy (CQ bf (l[a].proof.drop nx) ⟨ns,[],[],0,false⟩).2 1020000:=by
    unfold CQ
    split
    ·exact xQ hl ok.len _ _ 20000 g0 c0 (by have:=zG l[a].proof nx;omega)
    ·exact⟨g0,c0.mono (by omega)⟩
   generalize CQ bf (l[a].proof.drop nx) ⟨ns,[],[],0,false⟩=R at *;unfold rK
   split
   ·split
    ·split
     ·exact⟨by simp,by simp⟩
     ·exact⟨tX.1.steps,by have:=tX.2.steps;simp only;omega⟩
    ·exact⟨by simp,by simp⟩
   ·exact⟨by simp,by simp⟩
  ·have:=Ej l a l[a].fin hl ok.len l[a].proof [] (by simp) 0 (by simp)
   exact⟨this.1,by have:=this.2;omega⟩
 exact⟨key.2,fun s hs=>by have:=(key.1 s hs).1;omega,fun s hs=>(key.1 s hs).2⟩
section
theorem yE(w:World)(k l c u:Int)(lab f:ByteArray)(a1 a2:Option Addr)(n1 c1 n2 c2:Nat) :
    (Instr.field 158 (.agg #[.int .i64 k,.string lab,.slice a1 n1 c1,.slice a2 n2 c2,.string f,.int .i64 l,.int .i64 c,.int .i64 u]) 1).run Tryz.prog w=.ok (.string lab) w:=by kernel_rfl
attribute [local go_sem] yE
def lR(label:ByteArray)(L:List Rw)(steps:List lW)(f:oG):Rw :=
  if(f.1==0)=true then
    (match BU steps with
     | some u=>⟨label,3,0,((steps[u]?).map lW.at_).getD jF⟩
     | none=>if ni L steps=true then⟨label,5,0,jF⟩ else⟨label,4,0,jF⟩)
  else⟨label,2,f.1,f.2⟩
def gw(l:List St)(n:Nat)(s:St)(L:List Rw):Rw :=
  lR s.label L (jW l n s).1 (if(BU (jW l n s).1).isNone=true/\((jW l n s).2.1==0)=true then fC l n s (jW l n s).1 else(jW l n s).2)
theorem dG{w:World}{r:Nat}{x:Rw}(h:w.heap[r]?=some (.cells (lr x).toArray 38 (0,0))) :
    w.cell? ⟨r,0,none⟩=some (.string x.label)/\w.cell? ⟨r,1,none⟩=some (.int .i64 x.verdict)/\w.cell? ⟨r,2,none⟩=some (.int .i64 x.why)/\w.cell? ⟨r,3,none⟩=some (.string x.at_.file)/\w.cell? ⟨r,4,none⟩=some (.int .i64 x.at_.line)/\w.cell? ⟨r,5,none⟩=some (.int .i64 x.at_.col):=by
  refine⟨?_,?_,?_,?_,?_,?_⟩ <;> (rw[aa h];rfl)
theorem vT{w wr:World}{F:Nat}(K:ab [] w wr)(h1:w.heap.size<=F)(a0 a1 a2 a3 a4 a5:Value):ab [] w ((((((wr.setCell ⟨F,0,none⟩ a0).setCell ⟨F,1,none⟩ a1).setCell ⟨F,2,none⟩ a2).setCell ⟨F,3,none⟩ a3).setCell ⟨F,4,none⟩ a4).setCell ⟨F,5,none⟩ a5) :=
  (((((K.setCell (Or.inr h1) _).setCell (Or.inr h1) _).setCell (Or.inr h1) _).setCell (Or.inr h1) _).setCell (Or.inr h1) _).setCell (Or.inr h1) _
set_option maxRecDepth 100000 in
theorem DN(b o a g gh:Nat)(l:List St)(H K:Nat->Hd)(L:List Rw)(w:World)(h:jk w b o l H g L)(ok:jH l)(ha:a<l.length)(okp:vw l[a])(hall:fJ w gh l l.length K) :
    Calls Tryz.prog 114 #[.pointer (some ⟨b,o,none⟩),.int .i64 a,.slice (some ⟨gh,0,none⟩) l.length l.length] w fun e w' =>
      e=.returned (.agg (lr (gw l a l[a] L)).toArray)/\ab [] w w':=by
  have hbw:=h.recd.lt;have hlen:=ok.len;have sok:=KN l a ok ha okp;obtain⟨W,hW⟩:∃W,W=w.alloc (.cells #[.string ⟨#[]⟩,.int .i64 0,.int .i64 0,.string ⟨#[]⟩,.int .i64 0,.int .i64 0] 38):=⟨_,rfl⟩
  have kW:ab [] w W:=by rw[hW];exact(ab.refl [] _).alloc _
  have BF:W.heap[w.heap.size]?=some (.cells (lr nZ).toArray 38 (0,0)):=by rw[hW];exact heap_alloc_new _ _
  have HW:=(show Hid _ from hW.symm);clear hW;have HJ:Hid (gw l a l[a] L=lR l[a].label L (jW l a l[a]).1 (if(BU (jW l a l[a]).1).isNone=true/\((jW l a l[a]).2.1==0)=true then fC l a l[a] (jW l a l[a]).1 else(jW l a l[a]).2)):=rfl;have RD:=fun(w':World) (k:ab [] w w')=>En b o a l H w' (h.still k).recd ha ok okp
  have PL:=fun(hd:Hd) (w':World) (k:ab [] w w') (o':aA w' hd (fq (jW l a l[a]).1))=>Fv b o gh a l H K hd (jW l a l[a]).1 w' (h.still k).recd ok ha (hall.still k) o' sok
  have hslen:=sok.len;have HRD:=(show Hid _ from RD);have HPL:=(show Hid _ from PL);clear RD PL sok;generalize jW l a l[a]=PF at *;obtain⟨steps,pf,pp⟩:=PF;simp only at HJ HRD HPL hslen;go_enter Tryz.func114,Tryz.ntmps114
  go_upto_region 1 with fail
  rw[HW.out]
  go_upto_region 2 with (go_at_call 97;refine(bb b o a l H _ (by exact(h.still kW).recd) ha).mono ?_;rintro e w1 ⟨rfl,k1⟩;unfold eI)
  obtain⟨W2,hW2⟩:∃W2,W2=w1.alloc (.cells #[.string l[a].label,.int .i64 0,.int .i64 0,.string ⟨#[]⟩,.int .i64 0,.int .i64 0] 38):=⟨_,rfl⟩
  have k2:ab [] W W2:=by rw[hW2];exact k1.alloc _
  have BR:W2.heap[w1.heap.size]?=some (.cells (lr ⟨l[a].label,0,0,jF⟩).toArray 38 (0,0)):=by rw[hW2];exact heap_alloc_new _ _
  have hs1:w.heap.size<w1.heap.size:=by have:=k1.size;have:=ae BF;omega
  rw[<-hW2];clear hW2;have K2:=kW.trans k2;have BF2:=k2.get BF (by simp)
  go_upto_region 3 with (go_at_call 100;refine(HRD.out _ (by exact K2)).mono ?_;rintro e w3 ⟨hd,rfl,hO3,hN3,k3⟩;unfold gu)
  obtain⟨W4,hW4⟩:∃W4,W4=w3.alloc (.cells #[.int .i64 pf,.string pp.file,.int .i64 pp.line,.int .i64 pp.col] 165):=⟨_,rfl⟩
  have k4:ab [] W2 W4:=by rw[hW4];exact k3.alloc _
  have B9:W4.heap[w3.heap.size]?=some (.cells (AG (pf,pp)) 165 (0,0)):=by rw[hW4];exact heap_alloc_new _ _
  have hO4:aA W4 hd (fq steps):=by rw[hW4];exact hO3.moved (fun x hx=>((ab.refl [] _).alloc _).block x (hO3.lt hx) (by simp))
  rw[<-hW4];clear hW4;have hs3:w1.heap.size<w3.heap.size:=by have:=k3.size;have:=ae BR;omega
  have K4:=K2.trans k4;have BR4:=k4.get BR (by simp);have BF4:=k4.get BF2 (by simp);have FU:=qP hd steps W4 hO4 (by omega)
  cases hu:BU steps with
  | some u =>
    have HU:=(show Hid _ from hu);rw[hu]at FU;simp only[nK]at FU
    have hul:u<steps.length:=by
      have:=List.mem_of_find?_eq_some hu;simpa using this
    have hui:¬((u:Int)<0):=by omega
    have hui2:(u:Int) ≥ 0:=by omega
    have hui3:(u:Int)<steps.length:=by omega
    clear hu;have KV:=K4;have B9V:=B9;have BRV:=BR4;have BFV:=BF4;obtain⟨f0,f1,f2,f3⟩:=ie B9V;obtain⟨r0,r1,r2,r3,r4,r5⟩:=dG BRV;have yr:=ak BRV;simp only[jF]at r0 r1 r2 r3 r4 r5
    cases hp:(pf==0)
    · have hp':(pf != 0)=true:=by simp[bne,hp]
      have HF:Hid (gw l a l[a] L=⟨l[a].label,2,pf,pp⟩):=by show _=_;rw[HJ.out,HU.out,hp];simp[lR,hp]
      clear HJ
      go_upto_region 4 with (go_at_call 161;refine FU.mono ?_;rintro e wu ⟨rfl,hwu⟩;rw[hwu])
      go_upto_region 16 with fail
      obtain⟨X,hX⟩:∃X,X=((((W4.setCell ⟨w1.heap.size,1,none⟩ (.int .i64 2)).setCell ⟨w1.heap.size,2,none⟩ (.int .i64 pf)).setCell ⟨w1.heap.size,3,none⟩ (.string pp.file)).setCell ⟨w1.heap.size,4,none⟩ (.int .i64 pp.line)).setCell ⟨w1.heap.size,5,none⟩ (.int .i64 pp.col):=⟨_,rfl⟩
      have BX:X.heap[w1.heap.size]?=some (.cells (lr ⟨l[a].label,2,pf,pp⟩).toArray 38 (0,0)):=by
        rw[hX];rw[ah (ah (ah (ah (ah BRV _ _) _ _) _ _) _ _) _ _];rfl
      have KX:ab [] w X:=by rw[hX];exact(((((KV.setCell (Or.inr (Nat.le_of_lt hs1)) _).setCell (Or.inr (Nat.le_of_lt hs1)) _).setCell (Or.inr (Nat.le_of_lt hs1)) _).setCell (Or.inr (Nat.le_of_lt hs1)) _).setCell (Or.inr (Nat.le_of_lt hs1)) _)
      have BFX:X.heap[w.heap.size]?=some (.cells (lr nZ).toArray 38 (0,0)):=by
        rw[hX];rw[Below.heap_setCell _ _ _ _ (by simp;omega)];rw[Below.heap_setCell _ _ _ _ (by simp;omega)];rw[Below.heap_setCell _ _ _ _ (by simp;omega)];rw[Below.heap_setCell _ _ _ _ (by simp;omega)];rw[Below.heap_setCell _ _ _ _ (by simp;omega)];exact BFV
      rw[<-hX];clear hX r0 r1 r2 r3 r4 r5 yr;obtain⟨r0,r1,r2,r3,r4,r5⟩:=dG BX;obtain⟨s0,s1,s2,s3,s4,s5⟩:=dG BFX;have ys:=ak BFX;simp only[nZ,jF]at r0 r1 r2 r3 r4 r5 s0 s1 s2 s3 s4 s5;go_wp2;exact bodyPost_ret (v:=.agg (lr ⟨l[a].label,2,pf,pp⟩).toArray) (by simp[results,Tryz.results114,go_sem,s0,s1,s2,s3,s4,s5,lr]) rfl ⟨by rw[HF.out],vT KX (Nat.le_refl _) _ _ _ _ _ _⟩
    · have hp':(pf != 0)=false:=by simp[bne,hp]
      obtain⟨gp,ep,ecap,ecap2,-,-,d2,d3,d4⟩:=hO4.step u hul;have HF:Hid (gw l a l[a] L=⟨l[a].label,3,0,steps[u].at_⟩):=by show _=_;rw[HJ.out,HU.out,hp];simp[lR,hp,HU.out,hul]
      obtain⟨ao,cap⟩:=hd;simp only at ep ecap ecap2;subst ep;clear HJ;generalize steps[u]=st at *
      go_upto_region 4 with (go_at_call 161;refine FU.mono ?_;rintro e wu ⟨rfl,hwu⟩;rw[hwu])
      go_upto_region 16 with fail
      obtain⟨X,hX⟩:∃X,X=(((W4.setCell ⟨w1.heap.size,1,none⟩ (.int .i64 3)).setCell ⟨w1.heap.size,3,none⟩ (.string st.at_.file)).setCell ⟨w1.heap.size,4,none⟩ (.int .i64 st.at_.line)).setCell ⟨w1.heap.size,5,none⟩ (.int .i64 st.at_.col):=⟨_,rfl⟩
      have BX:X.heap[w1.heap.size]?=some (.cells (lr ⟨l[a].label,3,0,st.at_⟩).toArray 38 (0,0)):=by
        rw[hX];rw[ah (ah (ah (ah BRV _ _) _ _) _ _) _ _];rfl
      have KX:ab [] w X:=by rw[hX];exact((((KV.setCell (Or.inr (Nat.le_of_lt hs1)) _).setCell (Or.inr (Nat.le_of_lt hs1)) _).setCell (Or.inr (Nat.le_of_lt hs1)) _).setCell (Or.inr (Nat.le_of_lt hs1)) _)
      have BFX:X.heap[w.heap.size]?=some (.cells (lr nZ).toArray 38 (0,0)):=by
        rw[hX];rw[Below.heap_setCell _ _ _ _ (by simp;omega)];rw[Below.heap_setCell _ _ _ _ (by simp;omega)];rw[Below.heap_setCell _ _ _ _ (by simp;omega)];rw[Below.heap_setCell _ _ _ _ (by simp;omega)];exact BFV
      rw[<-hX];clear hX r0 r1 r2 r3 r4 r5 yr;obtain⟨r0,r1,r2,r3,r4,r5⟩:=dG BX;obtain⟨s0,s1,s2,s3,s4,s5⟩:=dG BFX;have ys:=ak BFX;simp only[nZ,jF]at r0 r1 r2 r3 r4 r5 s0 s1 s2 s3 s4 s5;go_wp2;exact bodyPost_ret (v:=.agg (lr ⟨l[a].label,3,0,st.at_⟩).toArray) (by simp[results,Tryz.results114,go_sem,s0,s1,s2,s3,s4,s5,lr]) rfl ⟨by rw[HF.out],vT KX (Nat.le_refl _) _ _ _ _ _ _⟩
  | none =>
    have HU:=(show Hid _ from hu);rw[hu]at FU;simp only[nK]at FU;clear hu
    cases hp:(pf==0)
    · have hp':(pf != 0)=true:=by simp[bne,hp]
      have HF:Hid (gw l a l[a] L=⟨l[a].label,2,pf,pp⟩):=by show _=_;rw[HJ.out,HU.out,hp];simp[lR,hp]
      have KV:=K4;have B9V:=B9;have BRV:=BR4;have BFV:=BF4;obtain⟨f0,f1,f2,f3⟩:=ie B9V;obtain⟨r0,r1,r2,r3,r4,r5⟩:=dG BRV;have yr:=ak BRV;simp only[jF]at r0 r1 r2 r3 r4 r5;clear HJ
      go_upto_region 4 with (go_at_call 161;refine FU.mono ?_;rintro e wu ⟨rfl,hwu⟩;rw[hwu])
      go_upto_region 16 with fail
      obtain⟨X,hX⟩:∃X,X=((((W4.setCell ⟨w1.heap.size,1,none⟩ (.int .i64 2)).setCell ⟨w1.heap.size,2,none⟩ (.int .i64 pf)).setCell ⟨w1.heap.size,3,none⟩ (.string pp.file)).setCell ⟨w1.heap.size,4,none⟩ (.int .i64 pp.line)).setCell ⟨w1.heap.size,5,none⟩ (.int .i64 pp.col):=⟨_,rfl⟩
      have BX:X.heap[w1.heap.size]?=some (.cells (lr ⟨l[a].label,2,pf,pp⟩).toArray 38 (0,0)):=by
        rw[hX];rw[ah (ah (ah (ah (ah BRV _ _) _ _) _ _) _ _) _ _];rfl
      have KX:ab [] w X:=by rw[hX];exact(((((KV.setCell (Or.inr (Nat.le_of_lt hs1)) _).setCell (Or.inr (Nat.le_of_lt hs1)) _).setCell (Or.inr (Nat.le_of_lt hs1)) _).setCell (Or.inr (Nat.le_of_lt hs1)) _).setCell (Or.inr (Nat.le_of_lt hs1)) _)
      have BFX:X.heap[w.heap.size]?=some (.cells (lr nZ).toArray 38 (0,0)):=by
        rw[hX];rw[Below.heap_setCell _ _ _ _ (by simp;omega)];rw[Below.heap_setCell _ _ _ _ (by simp;omega)];rw[Below.heap_setCell _ _ _ _ (by simp;omega)];rw[Below.heap_setCell _ _ _ _ (by simp;omega)];rw[Below.heap_setCell _ _ _ _ (by simp;omega)];exact BFV
      rw[<-hX];clear hX r0 r1 r2 r3 r4 r5 yr;obtain⟨r0,r1,r2,r3,r4,r5⟩:=dG BX;obtain⟨s0,s1,s2,s3,s4,s5⟩:=dG BFX;have ys:=ak BFX;simp only[nZ,jF]at r0 r1 r2 r3 r4 r5 s0 s1 s2 s3 s4 s5;go_wp2;exact bodyPost_ret (v:=.agg (lr ⟨l[a].label,2,pf,pp⟩).toArray) (by simp[results,Tryz.results114,go_sem,s0,s1,s2,s3,s4,s5,lr]) rfl ⟨by rw[HF.out],vT KX (Nat.le_refl _) _ _ _ _ _ _⟩
    · have HJ2:Hid (gw l a l[a] L=lR l[a].label L steps (fC l a l[a] steps)):=by show _=_;rw[HJ.out,HU.out,hp];simp
      obtain⟨f0,f1,f2,f3⟩:=ie B9;clear HJ;generalize fC l a l[a] steps=f at *
      go_upto_region 4 with (go_at_call 161;refine FU.mono ?_;rintro e wu ⟨rfl,hwu⟩;rw[hwu])
      have KV4:=K4
      go_upto_region 7 with (go_at_call 162;refine(HPL.out hd _ (by exact K4) (by exact hO4)).mono ?_;rintro e w5 ⟨rfl,k5⟩;unfold gu;obtain⟨t0,t1,t2,t3⟩:=ie (k5.get B9 (by simp));have yt:=ak (k5.get B9 (by simp)))
      obtain⟨V,hV⟩:∃V,V=(((w5.setCell ⟨w3.heap.size,0,none⟩ (.int .i64 f.1)).setCell ⟨w3.heap.size,1,none⟩ (.string f.2.file)).setCell ⟨w3.heap.size,2,none⟩ (.int .i64 f.2.line)).setCell ⟨w3.heap.size,3,none⟩ (.int .i64 f.2.col):=⟨_,rfl⟩
      have B9V:V.heap[w3.heap.size]?=some (.cells (AG f) 165 (0,0)):=by
        rw[hV,ah (ah (ah (ah (k5.get B9 (by simp)) _ _) _ _) _ _)];rfl
      have k9:ab [w3.heap.size] w5 V:=by rw[hV];exact ig _ _ _ _
      have KV:ab [] w V:=by rw[hV];exact jq (K4.trans k5) (by omega) _ _ _ _
      have BRV:=k9.get (k5.get BR4 (by simp)) (by simp;omega);have BFV:=k9.get (k5.get BF4 (by simp)) (by simp;omega);have hOV:aA V hd (fq steps):=(hO4.moved (w':=w5) (fun x hx=>k5.block x (hO4.lt hx) (by simp))).moved (fun x hx=>k9.block x (Nat.lt_of_lt_of_le (hO4.lt hx) k5.size) (by simp;rintro rfl;have:=hO3.lt hx;omega));rw[<-hV];clear hV t0 t1 t2 t3 yt;clear f0 f1 f2 f3;obtain⟨f0,f1,f2,f3⟩:=ie B9V;obtain⟨r0,r1,r2,r3,r4,r5⟩:=dG BRV;have yr:=ak BRV;simp only[jF]at r0 r1 r2 r3 r4 r5
      cases hf:(f.1==0)
      · have hf':(f.1 != 0)=true:=by simp[bne,hf]
        have HF:Hid (gw l a l[a] L=⟨l[a].label,2,f.1,f.2⟩):=by show _=_;rw[HJ2.out];simp[lR,hf]
        clear HJ2
        go_upto_region 16 with fail
        obtain⟨X,hX⟩:∃X,X=((((V.setCell ⟨w1.heap.size,1,none⟩ (.int .i64 2)).setCell ⟨w1.heap.size,2,none⟩ (.int .i64 f.1)).setCell ⟨w1.heap.size,3,none⟩ (.string f.2.file)).setCell ⟨w1.heap.size,4,none⟩ (.int .i64 f.2.line)).setCell ⟨w1.heap.size,5,none⟩ (.int .i64 f.2.col):=⟨_,rfl⟩
        have BX:X.heap[w1.heap.size]?=some (.cells (lr ⟨l[a].label,2,f.1,f.2⟩).toArray 38 (0,0)):=by
          rw[hX];rw[ah (ah (ah (ah (ah BRV _ _) _ _) _ _) _ _) _ _];rfl
        have KX:ab [] w X:=by rw[hX];exact(((((KV.setCell (Or.inr (Nat.le_of_lt hs1)) _).setCell (Or.inr (Nat.le_of_lt hs1)) _).setCell (Or.inr (Nat.le_of_lt hs1)) _).setCell (Or.inr (Nat.le_of_lt hs1)) _).setCell (Or.inr (Nat.le_of_lt hs1)) _)
        have BFX:X.heap[w.heap.size]?=some (.cells (lr nZ).toArray 38 (0,0)):=by
          rw[hX];rw[Below.heap_setCell _ _ _ _ (by simp;omega)];rw[Below.heap_setCell _ _ _ _ (by simp;omega)];rw[Below.heap_setCell _ _ _ _ (by simp;omega)];rw[Below.heap_setCell _ _ _ _ (by simp;omega)];rw[Below.heap_setCell _ _ _ _ (by simp;omega)];exact BFV
        rw[<-hX];clear hX r0 r1 r2 r3 r4 r5 yr;obtain⟨r0,r1,r2,r3,r4,r5⟩:=dG BX;obtain⟨s0,s1,s2,s3,s4,s5⟩:=dG BFX;have ys:=ak BFX;simp only[nZ,jF]at r0 r1 r2 r3 r4 r5 s0 s1 s2 s3 s4 s5;go_wp2;exact bodyPost_ret (v:=.agg (lr ⟨l[a].label,2,f.1,f.2⟩).toArray) (by simp[results,Tryz.results114,go_sem,s0,s1,s2,s3,s4,s5,lr]) rfl ⟨by rw[HF.out],vT KX (Nat.le_refl _) _ _ _ _ _ _⟩
      · have hf':(f.1 != 0)=false:=by simp[bne,hf]
        have RE:=G0 b o l H g L hd steps V (h.still KV) hOV (by omega)
        cases hr:ni L steps
        · have HF:Hid (gw l a l[a] L=⟨l[a].label,4,0,jF⟩):=by show _=_;rw[HJ2.out];simp[lR,hf,HU.out,hr]
          rw[hr]at RE;clear HJ2
          go_upto_region 6 with (go_at_call 163;refine RE.mono ?_;rintro e wv ⟨rfl,hwv⟩;rw[hwv])
          go_upto_region 16 with fail
          obtain⟨X,hX⟩:∃X,X=V.setCell ⟨w1.heap.size,1,none⟩ (.int .i64 4):=⟨_,rfl⟩
          have BX:X.heap[w1.heap.size]?=some (.cells (lr ⟨l[a].label,4,0,jF⟩).toArray 38 (0,0)):=by
            rw[hX];rw[ah BRV _ _];rfl
          have KX:ab [] w X:=by rw[hX];exact(KV.setCell (Or.inr (Nat.le_of_lt hs1)) _)
          have BFX:X.heap[w.heap.size]?=some (.cells (lr nZ).toArray 38 (0,0)):=by
            rw[hX];rw[Below.heap_setCell _ _ _ _ (by simp;omega)];exact BFV
          rw[<-hX];clear hX r0 r1 r2 r3 r4 r5 yr;obtain⟨r0,r1,r2,r3,r4,r5⟩:=dG BX;obtain⟨s0,s1,s2,s3,s4,s5⟩:=dG BFX;have ys:=ak BFX;simp only[nZ,jF]at r0 r1 r2 r3 r4 r5 s0 s1 s2 s3 s4 s5;go_wp2;exact bodyPost_ret (v:=.agg (lr ⟨l[a].label,4,0,jF⟩).toArray) (by simp[results,Tryz.results114,go_sem,s0,s1,s2,s3,s4,s5,lr,jF]) rfl ⟨by rw[HF.out],vT KX (Nat.le_refl _) _ _ _ _ _ _⟩
        · have HF:Hid (gw l a l[a] L=⟨l[a].label,5,0,jF⟩):=by show _=_;rw[HJ2.out];simp[lR,hf,HU.out,hr]
          rw[hr]at RE;clear HJ2
          go_upto_region 15 with (go_at_call 163;refine RE.mono ?_;rintro e wv ⟨rfl,hwv⟩;rw[hwv])
          go_upto_region 16 with fail
          obtain⟨X,hX⟩:∃X,X=V.setCell ⟨w1.heap.size,1,none⟩ (.int .i64 5):=⟨_,rfl⟩
          have BX:X.heap[w1.heap.size]?=some (.cells (lr ⟨l[a].label,5,0,jF⟩).toArray 38 (0,0)):=by
            rw[hX];rw[ah BRV _ _];rfl
          have KX:ab [] w X:=by rw[hX];exact(KV.setCell (Or.inr (Nat.le_of_lt hs1)) _)
          have BFX:X.heap[w.heap.size]?=some (.cells (lr nZ).toArray 38 (0,0)):=by
            rw[hX];rw[Below.heap_setCell _ _ _ _ (by simp;omega)];exact BFV
          rw[<-hX];clear hX r0 r1 r2 r3 r4 r5 yr;obtain⟨r0,r1,r2,r3,r4,r5⟩:=dG BX;obtain⟨s0,s1,s2,s3,s4,s5⟩:=dG BFX;have ys:=ak BFX;simp only[nZ,jF]at r0 r1 r2 r3 r4 r5 s0 s1 s2 s3 s4 s5;go_wp2;exact bodyPost_ret (v:=.agg (lr ⟨l[a].label,5,0,jF⟩).toArray) (by simp[results,Tryz.results114,go_sem,s0,s1,s2,s3,s4,s5,lr,jF]) rfl ⟨by rw[HF.out],vT KX (Nat.le_refl _) _ _ _ _ _ _⟩
end
def xt(l:List St)(n:Nat)(prev:List Rw):Rw:=match l[n]? with
 | some s=>if(s.kind==4)=true then⟨s.label,1,0,jF⟩ else if(s.kind==5)=true then gw l n s prev else nZ
 | none=>nZ
def jy(l:List St):Nat->List Rw
 | 0=>[]
 | k+1=>jy l k++[xt l k (jy l k)]
theorem px(l:List St)(k:Nat):(jy l k).length=k:=by
 induction k with
 | zero=>rfl
 | succ k ih=>simp[jy,ih]
def ii(l:List St)(k:Nat):List Rw:=jy l k++List.replicate (l.length-k) nZ
theorem qe(l:List St)(k:Nat)(h:k<=l.length):(ii l k).length=l.length:=by simp[ii,px];omega
theorem Eo(l:List St)(k:Nat)(h:k<l.length):ii l (k+1)=(ii l k).set k (xt l k (jy l k)):=by
 unfold ii;have e:l.length-k=(l.length-(k+1))+1:=by omega
 rw[e,List.replicate_succ,jy];have hl:=px l k;rw[List.set_append_right _ _ (by omega),hl,Nat.sub_self,List.set_cons_zero,List.append_assoc];rfl
theorem GL(l:List St):ii l l.length=jy l l.length:=by simp[ii]
theorem GM(l:List St)(k:Nat)(h:k<l.length):(ii l k).set k nZ=ii l k:=by
 unfold ii;have e:l.length-k=(l.length-(k+1))+1:=by omega
 have hl:=px l k;rw[e,List.replicate_succ,List.set_append_right _ _ (by omega),hl,Nat.sub_self,List.set_cons_zero]
theorem Is(A:List Rw)(m n:Nat):m8 (A++List.replicate m nZ) n=m8 A n:=by
 unfold m8;rw[List.getD_eq_getElem?_getD,List.getD_eq_getElem?_getD]
 by_cases h:n<A.length
 ·rw[List.getElem?_append_left h]
 ·rw[List.getElem?_append_right (by omega),List.getElem?_eq_none (l:=A) (by omega),List.getElem?_replicate]
  split <;> rfl
theorem zu{A B:List Rw}(h:∀n,m8 A n=m8 B n)(steps:List lW):ni A steps=ni B steps:=by
 unfold ni;simp only[h]
theorem xh{A B:List Rw}(h:∀n,m8 A n=m8 B n)(l:List St)(n:Nat)(s:St):gw l n s A=gw l n s B:=by
 unfold gw lR;rw[zu h]
theorem AN(l:List St)(n:Nat)(s:St)(k:Nat):gw l n s (ii l k)=gw l n s (jy l k):=xh (fun _=>Is _ _ _) l n s
theorem l8(A M B:List Value)(i j:Nat)(v:Value)(hi:i=A.length+j)(hj:j<M.length):(A++(M++B)).set i v=A++(M.set j v++B):=by
 subst hi;rw[List.set_append_right _ _ (by omega),Nat.add_sub_cancel_left,List.set_append_left _ _ hj]
theorem wf(L:List Rw)(k:Nat)(hk:k<L.length):jz L=jz (L.take k)++(lr L[k]++jz (L.drop (k+1))):=by
 have e:L=L.take k++(L[k] :: L.drop (k+1)):=by rw[<-List.drop_eq_getElem_cons hk,List.take_append_drop]
 conv=>lhs;rw[e]
 unfold jz;rw[List.flatMap_append,List.flatMap_cons]
theorem JH(L:List Rw)(k:Nat)(hk:k<L.length)(r:Rw) :
  (((((((jz L).set (k*6) (.string r.label)).set (k*6+1) (.int .i64 r.verdict)).set (k*6+2) (.int .i64 r.why)).set (k*6+3) (.string r.at_.file)).set (k*6+4) (.int .i64 r.at_.line)).set (k*6+5) (.int .i64 r.at_.col))=jz (L.set k r):=by
 have hA:(jz (L.take k)).length=k*6:=by rw[zD,List.length_take];congr 1;omega
 have e2:jz (L.set k r)=jz (L.take k)++(lr r++jz (L.drop (k+1))):=by
  rw[wf (L.set k r) k (by simpa using hk)];simp[List.take_set,List.drop_set];rw[List.set_eq_of_length_le (by simp;omega)]
 rw[e2,wf L k hk,lr,l8 _ _ _ _ 0 _ (by omega) (by simp),l8 _ _ _ _ 1 _ (by omega) (by simp),l8 _ _ _ _ 2 _ (by omega) (by simp),l8 _ _ _ _ 3 _ (by omega) (by simp),l8 _ _ _ _ 4 _ (by omega) (by simp),l8 _ _ _ _ 5 _ (by omega) (by simp)];rfl
theorem ab.wide{S:List Nat}{w w':World}(k:ab [] w w'):ab S w w':=k.mono (by simp)
def zF(w:World)(g k:Nat)(r:Rw):World :=
 (((((w.setCell ⟨g,k*6,none⟩ (.string r.label)).setCell ⟨g,k*6+1,none⟩ (.int .i64 r.verdict)).setCell ⟨g,k*6+2,none⟩ (.int .i64 r.why)).setCell ⟨g,k*6+3,none⟩ (.string r.at_.file)).setCell ⟨g,k*6+4,none⟩ (.int .i64 r.at_.line)).setCell ⟨g,k*6+5,none⟩ (.int .i64 r.at_.col)
theorem pA(w:World)(g k:Nat)(r:Rw):ab [g] w (zF w g k r) :=
 ((((((ab.refl [g] w).setCell (Or.inl (by simp)) _).setCell (Or.inl (by simp)) _).setCell (Or.inl (by simp)) _).setCell (Or.inl (by simp)) _).setCell (Or.inl (by simp)) _).setCell (Or.inl (by simp)) _
theorem jk.store{w:World}{b o:Nat}{l:List St}{H:Nat->Hd}{g:Nat}{L:List Rw}(h:jk w b o l H g L)(hb:b≠g)(hg:∀x,fm H x->x≠g)(k:Nat)(hk:k<L.length)(r:Rw):jk (zF w g k r) b o l H g (L.set k r):=by
 have kk:=pA w g k r;obtain⟨arr,t,h1,h2⟩:=h.cell;refine⟨h.recd.kept kk (by simpa using hb) (fun x hx=>by simpa using hg x hx),⟨arr,t,kk.get h1 (by simpa using hb),by rw[List.length_set];exact h2⟩,?_⟩;unfold zF;rw[ah (ah (ah (ah (ah (ah h.arr _ _) _ _) _ _) _ _) _ _)];simp only[List.setIfInBounds_toArray];rw[JH L k hk r]
def rX(l:List St)(H:Nat->Hd):Nat->Hd:=fun i=>if i=6∨(10<=i/\i<10+2*l.length) then H i else⟨none,0⟩
theorem mo(l:List St)(H:Nat->Hd)(j:Nat)(h:j=6∨(10<=j/\j<10+2*l.length)):rX l H j=H j:=if_pos h
theorem gO.trim{w:World}{l:List St}{H:Nat->Hd}(h:gO w l H):gO w l (rX l H)/\∀k,fm (rX l H) k->k<w.heap.size/\fm H k:=by
 refine⟨⟨?_,fun i s hs=>?_,fun i s hs=>?_⟩,?_⟩
 ·have e:kR l (rX l H)=kR l H:=by
   rw[<-rV l H (fun i=>if i<10+2*l.length then H i else⟨none,0⟩) (fun j hj=>if_pos hj)]
   apply uH
   intro j hj
   by_cases hl:j<10+2*l.length
   ·simp only[if_pos hl];exact mo l H j (Or.inr ⟨hj,hl⟩)
   ·simp only[if_neg hl];exact if_neg (by omega)
  rw[mo l H 6 (Or.inl rfl)];unfold gB;rw[e];exact h.own
 ·have hi:i<l.length:=(List.getElem?_eq_some_iff.1 hs).1
  rw[mo l H (10+2*i) (by omega)];exact h.syms i s hs
 ·have hi:i<l.length:=(List.getElem?_eq_some_iff.1 hs).1
  rw[mo l H (11+2*i) (by omega)];exact h.prfs i s hs
 ·rintro k ⟨i,hi⟩
  by_cases hc:i=6∨(10<=i/\i<10+2*l.length)
  ·rw[mo l H i hc]at hi
   refine⟨?_,⟨i,hi⟩⟩
   rcases hc with rfl | ⟨h1,h2⟩
   ·exact h.own.lt hi
   ·by_cases hp:(i-10) % 2=0
    ·have e:i=10+2*((i-10) / 2):=by omega
     rw[e]at hi;have hl:(i-10) / 2<l.length:=by omega
     exact(h.syms _ _ (List.getElem?_eq_getElem hl)).lt hi
    ·have e:i=11+2*((i-10) / 2):=by omega
     rw[e]at hi;have hl:(i-10) / 2<l.length:=by omega
     exact(h.prfs _ _ (List.getElem?_eq_getElem hl)).lt hi
  ·have e:rX l H i=⟨none,0⟩:=if_neg hc
   rw[e]at hi;simp[Hd.blk]at hi
set_option maxRecDepth 100000 in
theorem mE(b o g:Nat)(l:List St)(H:Nat->Hd)(w:World)(h:jk w b o l H g (ii l 0))(ok:jH l)(okp:∀i (hi:i<l.length),vw l[i])(hb:b≠g)(hg:∀x,fm H x->x≠g) :
  Calls Tryz.prog 81 #[.pointer (some ⟨b,o,none⟩)] w fun e w'=>e=.returned (.tuple #[])/\jk w' b o l H g (jy l l.length)/\ab [g] w w':=by
 have hbw:=h.recd.lt;have hgw:=ae h.arr;have hlen:=ok.len;go_enter Tryz.func81,Tryz.ntmps81;go_wp2_with (go_at_call 113;refine(pI b o l H _ (by exact h.recd) ok).mono ?_;rintro e w1 ⟨gh,K,rfl,A1,hgh,hKn,k1⟩)
 go_loopg [3] l.length (fun gk iv wr=>∃(k:Nat),k<=l.length/\gk=l.length-k/\iv=.int .i64 k/\jk wr b o l H g (ii l k)/\fJ wr gh l l.length K/\ab [g] w wr)
 case atStart=>exact⟨0,by omega,by omega,rfl,h.still k1,A1,k1.wide⟩
 case round =>
  obtain⟨k,hk,hg',rfl,hR,hA,hK⟩:=hrel;have HPL:=(show Hid _ from qe l k hk);have c2:=hR.at2;rw[HPL.out]at c2
  by_cases hlt:k<l.length
  ·have HON:Hid (xt l k (jy l k)=if(l[k].kind==4)=true then⟨l[k].label,1,0,jF⟩ else if(l[k].kind==5)=true then gw l k l[k] (ii l k) else nZ):=by
    show _=_
    unfold xt;rw[List.getElem?_eq_getElem hlt,AN]
   have HNX:=(show Hid _ from Eo l k hlt)
   go_upto_region 5 with (go_at_call 97;refine(bb b o k l H _ (by exact hR.recd) hlt).mono ?_;rintro e w3 ⟨rfl,k3⟩;unfold eI)
   obtain⟨X,hX⟩:∃X,X=w3.alloc (.cells #[.int .i64 l[k].kind,.string l[k].label,.slice (H (10+2*k)).ao l[k].symbols.length (H (10+2*k)).cap,.slice (H (11+2*k)).ao l[k].proof.length (H (11+2*k)).cap,.string l[k].fin.file,.int .i64 l[k].fin.line,.int .i64 l[k].fin.col,.int .i64 l[k].til] 158):=⟨_,rfl⟩
   have kX:ab [] wr X:=by rw[hX];exact k3.alloc _
   have BX:X.heap[w3.heap.size]?=some (.cells #[.int .i64 l[k].kind,.string l[k].label,.slice (H (10+2*k)).ao l[k].symbols.length (H (10+2*k)).cap,.slice (H (11+2*k)).ao l[k].proof.length (H (11+2*k)).cap,.string l[k].fin.file,.int .i64 l[k].fin.line,.int .i64 l[k].fin.col,.int .i64 l[k].til] 158 (0,0)):=by rw[hX];exact heap_alloc_new _ _
   rw[<-hX];clear hX;have m0:X.cell? ⟨w3.heap.size,0,none⟩=some (.int .i64 l[k].kind):=by rw[aa BX];rfl
   have m1:X.cell? ⟨w3.heap.size,1,none⟩=some (.string l[k].label):=by rw[aa BX];rfl
   have RX:=hR.still kX;have AX:=hA.still kX;have KX:=hK.trans kX.wide;have hgX:=ae RX.arr;have hbX:=RX.recd.lt;have hs3:wr.heap.size<=w3.heap.size:=k3.size;have hgwr:=ae hR.arr;have hbwr:=hR.recd.lt;have hgh2:gh≠g:=by omega
   have hKn2:∀n x,(K n).blk=some x->x∉[g]:=fun n x hx=>by have:=hKn n x hx;simp;omega
   have c2X:=RX.at2;rw[HPL.out]at c2X;have hkp:k<(ii l k).length:=by rw[HPL.out];exact hlt
   obtain⟨g0,g1,g2,g3,g4,g5⟩:=RX.row k hkp;have yg:=ak RX.arr;have hki:(k:Int)<l.length:=by omega
   have hne1:w3.heap.size≠g:=by omega
   have hne2:g≠w3.heap.size:=by omega
   have hne3:g≠b:=fun e=>hb e.symm
   clear c2;generalize (ii l k)[k]=old at *
   cases h4:(l[k].kind==4)
   ·cases h5:(l[k].kind==5)
    ·have HE:Hid (ii l (k+1)=ii l k):=by
      show _=_
      rw[HNX.out,HON.out,h4,h5];simp only[Bool.false_eq_true,if_false];exact GM l k hlt
     clear HON HNX;go_wp2
     go_roundg (l.length-(k+1))
     case measure=>omega
     case rel=>exact⟨k+1,by omega,rfl,by go_num,by rw[HE.out];exact RX,AX,KX⟩
    ·have HE:Hid (ii l (k+1)=(ii l k).set k (gw l k l[k] (ii l k))):=by show _=_;rw[HNX.out,HON.out,h4,h5];rfl
     have JA:=fun(w':World) (q:ab [] X w')=>DN b o k g gh l H K (ii l k) w' (RX.still q) ok hlt (okp k hlt) (AX.still q)
     have HJA:=(show Hid _ from JA)
     have HCX:Hid (∀w',ab [] X w'->w'.cell? ⟨b,o+2,none⟩=some (.slice (some ⟨g,0,none⟩) l.length l.length)):=by
      intro w' q;have:=(RX.still q).at2;rw[HPL.out]at this;exact this
     have HRW:Hid (∀w',ab [] X w'->w'.cell? ⟨g,k*6,none⟩=some (.string old.label)/\w'.cell? ⟨g,k*6+1,none⟩=some (.int .i64 old.verdict)/\w'.cell? ⟨g,k*6+2,none⟩=some (.int .i64 old.why)/\w'.cell? ⟨g,k*6+3,none⟩=some (.string old.at_.file)/\w'.cell? ⟨g,k*6+4,none⟩=some (.int .i64 old.at_.line)/\w'.cell? ⟨g,k*6+5,none⟩=some (.int .i64 old.at_.col)/\∀n,w'.frozen? ⟨g,n,none⟩=false):=by
      intro w' q;have q2:=q.get RX.arr (by simp);refine⟨?_,?_,?_,?_,?_,?_,fun n=>ak q2 n⟩
      ·rw[aa q2,<-aa RX.arr];exact g0
      ·rw[aa q2,<-aa RX.arr];exact g1
      ·rw[aa q2,<-aa RX.arr];exact g2
      ·rw[aa q2,<-aa RX.arr];exact g3
      ·rw[aa q2,<-aa RX.arr];exact g4
      ·rw[aa q2,<-aa RX.arr];exact g5
     unfold lr at HJA;clear HON HNX JA g0 g1 g2 g3 g4 g5 yg;generalize gw l k l[k] (ii l k)=r at *
     go_upto_region 8 with fail
     go_region_held3 (fun w'=>w'.cell? ⟨b,o+2,none⟩=some (.slice (some ⟨g,0,none⟩) l.length l.length)) (go_keep) (first | (go_at_call 114;refine(HJA.out _ (by exact(ab.refl [] X).drew)).mono ?_;rintro e w5 ⟨rfl,k5⟩;have x0:=HCX.out w5 ((ab.refl [] X).drew.trans k5);obtain⟨g0,g1,g2,g3,g4,g5,yg⟩:=HRW.out w5 ((ab.refl [] X).drew.trans k5)))
     all_goals
      have kk:=((ab.refl [] X).drew.trans k5);have ST:=(RX.still kk).store hb hg k hkp r;have SK:=pA w5 g k r;have AK:=(AX.still kk).kept SK (by simpa using hgh2) hKn2;have KK:=(KX.trans kk.wide).trans SK;rw[<-HE.out]at ST;unfold zF at ST SK AK KK;clear m0 m1 c2X g0 g1 g2 g3 g4 g5 yg x0;go_wp2
      go_roundg (l.length-(k+1))
      case measure=>omega
      case rel=>exact⟨k+1,by omega,rfl,by go_num,ST,AK,KK⟩
   ·have h5:(l[k].kind==5)=false:=by have:=eq_of_beq h4;rw[this];rfl
    have HE:Hid (ii l (k+1)=(ii l k).set k ⟨l[k].label,1,0,jF⟩):=by show _=_;rw[HNX.out,HON.out,h4];rfl
    clear HON HNX
    go_upto_region 6 with fail
    go_region
    all_goals
     have ST:=RX.store hb hg k hkp ⟨l[k].label,1,0,jF⟩;have SK:=pA X g k ⟨l[k].label,1,0,jF⟩;have AK:=AX.kept SK (by simpa using hgh2) hKn2;have KK:=KX.trans SK;rw[<-HE.out]at ST;unfold zF at ST SK AK KK;simp only[jF]at ST AK KK;clear m1 c2X g0 g1 g2 g3 g4 g5 yg SK;go_wp2
     go_roundg (l.length-(k+1))
     case measure=>omega
     case rel=>exact⟨k+1,by omega,rfl,by go_num,ST.still (ab.refl [] _).drew,AK.still (ab.refl [] _).drew,KK.drew⟩
  ·have e:k=l.length:=by omega
   subst e;rw[GL]at hR;go_wp2;go_end0;exact⟨rfl,hR,hK⟩
end Go.Proofs.YtpddjjabfbfifaaGreat
