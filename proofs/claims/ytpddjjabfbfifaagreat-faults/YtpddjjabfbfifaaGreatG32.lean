import Derived.Test.YtpddjjabfbfifaaGreatG31
namespace Go.Proofs.YtpddjjabfbfifaaGreat
open Go.RowKit
set_option maxHeartbeats 40000000
def Jr(x:jD×Hd):List Value:=[.slice x.2.ao x.1.st.length x.2.cap,.int .i64 x.1.why,.string x.1.file,.int .i64 x.1.line,.int .i64 x.1.col]
theorem Js(x:jD×Hd):(Jr x).length=5:=rfl
def fj(L:List (jD×Hd)):dK:=kq 122 5 Jr L
def iI(L:List jL):dK:=kq 38 6 mT L
structure JU(w:World)(v b:Nat)(x0 x1:Value)(PS:List (jD×Hd))(aoP:Option Addr)(cP:Nat)(RS:List jL)(aoR:Option Addr)(cR:Nat):Prop where
 d:w.heap[v]?=some (.cells #[x0,x1,.pointer (some ⟨b,0,none⟩),.slice aoP PS.length cP,.slice aoR RS.length cR] 85 (0,0))
 p:cG w aoP 5 Jr PS
 q:∀x∈PS,cG w x.2.ao 6 j5 x.1.st
 r:cG w aoR 6 mT RS
theorem JU.still{w w':World}{v b:Nat}{x0 x1:Value}{PS:List (jD×Hd)}{aoP:Option Addr}{cP:Nat}{RS:List jL}{aoR:Option Addr}{cR:Nat}(a:JU w v b x0 x1 PS aoP cP RS aoR cR)(k:ab [] w w'):JU w' v b x0 x1 PS aoP cP RS aoR cR :=
 ⟨k.get a.d (by simp),a.p.still k,fun x hx=>(a.q x hx).still k,a.r.still k⟩
def gN(RS:List jL)(a:Nat):jL:=RS.getD a JG
theorem xD(RS:List jL)(a:Nat)(h:a<RS.length):RS[a]?=some (gN RS a):=by
 unfold gN;rw[List.getD_eq_getElem?_getD,List.getElem?_eq_getElem h];rfl
def fk(RS:List jL)(a:Nat):Bool:=((gN RS a).verdict==4)||((gN RS a).verdict==5)
set_option maxRecDepth 100000 in
theorem EY(v b a:Nat)(x0 x1:Value)(PS:List (jD×Hd))(aoP:Option Addr)(cP:Nat)(RS:List jL)(aoR:Option Addr)(cR:Nat)(w:World)(hJ:JU w v b x0 x1 PS aoP cP RS aoR cR)(ha:a<RS.length) :
  Calls Tryz.prog 66 #[.pointer (some ⟨v,0,none⟩),.int .i64 a] w fun e w'=>e=.returned (.bool (fk RS a))/\w'=w:=by
 obtain⟨g,rfl,hg,c⟩:=hJ.r a _ (xD RS a ha);have c1:w.cell? ⟨g,a*6+1,none⟩=some (.int .i64 (gN RS a).verdict):=c 1 _ rfl;have d4:w.cell? ⟨v,4,none⟩=some (.slice (some ⟨g,0,none⟩) RS.length cR):=by rw[aa hJ.d];rfl
 have hz:=ae hJ.d;have hai:(a:Int)<(RS.length:Int):=by omega
 have HR:Hid (fk RS a=(((gN RS a).verdict==4)||((gN RS a).verdict==5))):=rfl;generalize (gN RS a).verdict=vd at *;clear hJ c
 cases h4:(vd==4)
 ·cases h5:(vd==5)
  ·have HM:Hid (fk RS a=false):=by show _=_;rw[HR.out,h4,h5];rfl
   go_enter Tryz.func66,Tryz.ntmps66;go_wp2;go_ret;exact⟨aB HM.out.symm,rfl⟩
  ·have HM:Hid (fk RS a=true):=by show _=_;rw[HR.out,h4,h5];rfl
   go_enter Tryz.func66,Tryz.ntmps66;go_wp2;go_ret;exact⟨aB HM.out.symm,rfl⟩
 ·have HM:Hid (fk RS a=true):=by show _=_;rw[HR.out,h4];rfl
  go_enter Tryz.func66,Tryz.ntmps66;go_wp2;go_ret;exact⟨aB HM.out.symm,rfl⟩
end Go.Proofs.YtpddjjabfbfifaaGreat
