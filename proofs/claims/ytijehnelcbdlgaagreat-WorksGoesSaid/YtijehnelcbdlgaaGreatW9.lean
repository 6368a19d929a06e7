import Derived.Test.YtijehnelcbdlgaaGreatW0
import Derived.Test.YtijehnelcbdlgaaGreatW4
import Derived.Test.YtijehnelcbdlgaaGreatW8
import Derived.Test.YtijehnelcbdlgaaGreatW1
import Derived.Test.YtijehnelcbdlgaaGreatW6
import Derived.Test.YtijehnelcbdlgaaGreatW5
namespace Go.Proofs.aM
open Go.Proofs Ab
noncomputable section
set_option maxRecDepth 100000
set_option maxHeartbeats 4000000
set_option linter.unusedVariables false
set_option linter.unusedSimpArgs false
def BX (c:UInt8):Bool:=decide (97≤((c.toNat:Nat):Int))&&decide (((c.toNat:Nat):Int)≤122)
def digit (c:UInt8):Bool:=decide (48≤((c.toNat:Nat):Int))&&decide (((c.toNat:Nat):Int)≤57)
def dash (c:UInt8):Bool:=decide (((c.toNat:Nat):Int)=45)
def DT (f:Nat→Bool):Nat→Nat→Bool
 | 0,_=>true
 | k+1,i=>f i&&DT f k (i+1)
theorem all_congr {f g:Nat→Bool}:∀(k i:Nat),(∀j,i≤j→j<i+k→f j=g j)→DT f k i=DT g k i
 | 0,_,_=>rfl
 | k+1,i,h=>by
  rw[DT,DT,h i (jR _) o!,all_congr k (i+1) fun j h1 h2=>h j o! o!]
theorem ads (a b:Int):decide (a<b)= !decide (b≤a):=by
 by_cases h:a<b
 · rw[eV h,fL o!];rfl
 · rw[fL h,eV o!];rfl
theorem M7 (s:List UInt8):∀(k i:Nat),lB s k i=bif DT (fun j=>BX (s.g j)||(!decide ((j:Int)=0)&&(digit (s.g j)||dash (s.g j)))) k i then none else some false
 | 0,_=>rfl
 | k+1,i=>by
  rw[lB,DT,M7 s k (i+1),BX,digit,dash]
  generalize DT _ k (i+1)=z
  generalize decide (97≤(((s.g i).toNat:Nat):Int))=a
  generalize decide ((((s.g i).toNat:Nat):Int)≤122)=b
  generalize decide (48≤(((s.g i).toNat:Nat):Int))=c
  generalize decide ((((s.g i).toNat:Nat):Int)≤57)=d
  generalize decide ((((s.g i).toNat:Nat):Int)=45)=e
  generalize decide ((i:Int)=0)=f
  cases a<;>cases b<;>cases c<;>cases d<;>cases e<;>cases f<;>rfl
theorem M8 (s:List UInt8):∀(k i:Nat),eh s k i=bif DT (fun j=>BX (s.g j)||(digit (s.g j)||dash (s.g j))) k i then none else some false
 | 0,_=>rfl
 | k+1,i=>by
  rw[eh,DT,M8 s k (i+1),BX,digit,dash]
  simp only[ads]
  generalize DT _ k (i+1)=z
  generalize decide (97≤(((s.g i).toNat:Nat):Int))=a
  generalize decide ((((s.g i).toNat:Nat):Int)≤122)=b
  generalize decide (48≤(((s.g i).toNat:Nat):Int))=c
  generalize decide ((((s.g i).toNat:Nat):Int)≤57)=d
  generalize decide ((((s.g i).toNat:Nat):Int)=45)=e
  cases a<;>cases b<;>cases c<;>cases d<;>cases e<;>rfl
theorem Xv (s:List UInt8):il s=gk s:=by
 unfold il gk
 cases s with
 | nil=>rfl
 | cons x s=>
  rw[fL (show ¬x::s=[] by simp),fL (show ¬(((x::s).length:Nat):Int)=0 by simp;omega)]
  cases decide (16<(((x::s).length:Nat):Int)) with
  | true=>rfl
  | false=>
   rw[M7,M8,List.length_cons,DT,DT,ads,ads]
   rw[all_congr (f:=fun j=>BX ((x::s).g j)||(!decide ((j:Int)=0)&&(digit ((x::s).g j)||dash ((x::s).g j)))) (g:=fun j=>BX ((x::s).g j)||(digit ((x::s).g j)||dash ((x::s).g j))) s.length (0+1) fun j hj _=>by
    simp only[fL (show ¬(j:Int)=0 by omega),Bool.not_false,Bool.true_and]]
   simp only[BX]
   rw[show decide (((0:Nat):Int)=0)=true from rfl]
   generalize DT _ s.length (0+1)=z
   generalize decide (97≤((((x::s).g 0).toNat:Nat):Int))=a
   generalize decide (((((x::s).g 0).toNat:Nat):Int)≤122)=b
   generalize digit ((x::s).g 0)=c
   generalize dash ((x::s).g 0)=e
   cases a<;>cases b<;>cases c<;>cases e<;>cases z<;>rfl
def qX:Code:=(Tryz.f70.body).getD .skip
theorem kl:Tryz.f70.body=some qX:=by kernel_rfl
def As:Code:=(bl qX).getD 0 .skip
def cM (x_:aR):Nat→Nat→Option (Int)
 | 0,_=>none
 | dx+1,i0=>(bif (!(eO (x_.off.g i0).a8)) then some 1 else (bif (!(eO (x_.off.g i0).aQ)) then some 1 else (bif (decide ((x_.off.g i0).aQ<((x_.off.g i0).a8))) then some 1 else (bif (decide (0<((i0:Nat):Int))) then (bif (decide ((x_.off.g i0).a8≤((x_.off.g (i0 - 1)).aQ))) then some 1 else cM x_ dx (i0+1)) else cM x_ dx (i0+1)))))
theorem mC {d:Nat} {h:az} (x_:aR) (bj:Nat) (bp:x_.name.length<2^60) (cC:aO h x_.cJ x_.off) (fI:aK.ok h x_):∀(k_ i_:Nat) (_:i_+k_=x_.off.length) (x:Nat→AV) (hh:az) (aF:Tidy hh) (aA:Has h hh) (br:hh.get bj=some (aN.cells [(AV.str x_.name),(Zi x_.aI),x_.cJ] 45 false)),aC (cA (d+1)) As ⟨((x 0)::(Pt bj)::(x 2)::(Zn i_)::rx x 4 58 []),hh,[],.no⟩ (.exit 0) hh (fun y=>((y 0)::(Pt bj)::rx y 2 60 [])) (fun r y=>((y 0)::(Pt bj)::(Zi r)::rx y 3 59 [])) (cM x_ k_ i_)
 | 0,i0,eZ,x,hh,aF,aA,br=>by
  have gd:=(cC.has aA).len
  have q2:(decide (((i0:Nat):Int)<((x_.off.length:Nat):Int)))=false:=d!
  exact aC.out rfl (pk (d+1) _ _ hh _ hh (CN 2<|MM (aP 43 2 x_.cJ br k!)<|VV gd<|VV (bE 3 false false .i64 ((i0:Nat):Int) ((x_.off.length:Nat):Int))<|BB q2<|ZZ) k!) (Grow.refl aF) k!
 | dx+1,i0,eZ,x,hh,aF,aA,br=>by
  have mw:=cC.small
  have tD:=aF _ _ br
  have gd:=(cC.has aA).len
  have q2:(decide (((i0:Nat):Int)<((x_.off.length:Nat):Int)))=true:=d!
  obtain ⟨p4,q5,oH⟩:=(cC.has aA).elem (i:=i0) o!
  have qm:=(cC.has aA).load o! oH
  obtain ⟨h7,akQ,dM,r5,dS,DU⟩:=gQ aF (aN.cells [(Zi 0),(Zi 0)] 52 false)
  have cV:=DU
  obtain ⟨h8,akR,xV,ajY,mz,tY⟩:=j_ (t:=52) (n:=2) (i:=hh.nx) (L:=[(Zi (x_.off.g i0).a8),(Zi (x_.off.g i0).aQ)]) dM dS k! rfl rfl rfl
  have sW:=Has.bK cV tY aF o!
  have k9:=zW (d:=d) (x_.off.g i0).a8 xV
  have ei:=fun {al ps} (k:Pk al _ ps)=>(CN 2<|MM (aP 43 2 x_.cJ br k!)<|VV gd<|VV (bE 3 false false .i64 ((i0:Nat):Int) ((x_.off.length:Nat):Int))<|BC q2<|MM (aP 43 2 x_.cJ br k!)<|CC<|VV oH<|MM qm<|NN akQ (fun i=>(Pt i))<|SS akR<|CC<|MM (aP 3 0 (Zi (x_.off.g i0).a8) mz k!)<|EE k9<|CN 2<|k:Pk _ [] ps)
  rcases bu (!(eO (x_.off.g i0).a8)) with f1 | f1
  · exact aC.ret 1 (by simp only[cM,f1,ao,ai]) (pk (d+1) _ _ hh _ h8 (ei<|BB f1<|BB f1<|BB f1<|BV f1 (tR true f1)<|CC<|TT<|TT<|TT<|TT<|TT<|CN 2<|TT<|TT<|TT<|TT<|CC<|HH (aP 3 0 (Zi (x_.off.g i0).a8) mz k!)<|HH (show AV.same 20 (Zi (x_.off.g i0).a8) (Zi (x_.off.g i0).a8)=true from aS 19 _ _)<|TT<|CC<|ZZ) k!) (⟨xV,sW,by omega⟩) k!
  · have k11:=zW (d:=d) (x_.off.g i0).aQ xV
    have gK:=fun {al ps} (k:Pk al _ ps)=>(ei<|BC f1<|BM f1 (aP 3 1 (Zi (x_.off.g i0).aQ) mz k!)<|BB f1<|EE k11<|BC f1<|VV (dD (a:=some (AV.bool true)) (b:=some (AV.bool (!(eO (x_.off.g i0).aQ)))) f1)<|CC<|k:Pk _ [] ps)
    rcases bu (!(eO (x_.off.g i0).aQ)) with f2 | f2
    · exact aC.ret 1 (by simp only[cM,f1,f2,ao,ai]) (pk (d+1) _ _ hh _ h8 (gK<|BB f2<|BB f2<|BB f2<|BB f2<|BV f2 (tR true f2)<|CC<|TT<|TT<|TT<|TT<|CC<|HH (aP 3 0 (Zi (x_.off.g i0).a8) mz k!)<|HH (show AV.same 20 (Zi (x_.off.g i0).a8) (Zi (x_.off.g i0).a8)=true from aS 19 _ _)<|HH (aP 3 1 (Zi (x_.off.g i0).aQ) mz k!)<|HH (show AV.same 20 (Zi (x_.off.g i0).aQ) (Zi (x_.off.g i0).aQ)=true from aS 19 _ _)<|TT<|CC<|ZZ) k!) (⟨xV,sW,by omega⟩) k!
    · have n9:=fun {al ps} (k:Pk al _ ps)=>(gK<|BC f2<|BM f2 (aP 3 0 (Zi (x_.off.g i0).a8) mz k!)<|BC f2<|BM f2 (aP 3 1 (Zi (x_.off.g i0).aQ) mz k!)<|BV f2 (gz 3 false false .i64 (x_.off.g i0).a8 (x_.off.g i0).aQ)<|VV (dD (a:=some (AV.bool true)) (b:=some (AV.bool (decide ((x_.off.g i0).aQ<((x_.off.g i0).a8))))) f2)<|CC<|k:Pk _ [] ps)
      rcases bu (decide ((x_.off.g i0).aQ<((x_.off.g i0).a8))) with f3 | f3
      · have tF:=jv f3
        exact aC.ret 1 (by simp only[cM,f1,f2,f3,ao,ai]) (pk (d+1) _ _ hh _ h8 (n9<|BB f3<|BB f3<|BB f3<|BV f3 (tR true f3)<|HH (aP 3 0 (Zi (x_.off.g i0).a8) mz k!)<|HH (show AV.same 20 (Zi (x_.off.g i0).a8) (Zi (x_.off.g i0).a8)=true from aS 19 _ _)<|HH (aP 3 1 (Zi (x_.off.g i0).aQ) mz k!)<|HH (show AV.same 20 (Zi (x_.off.g i0).aQ) (Zi (x_.off.g i0).aQ)=true from aS 19 _ _)<|HH (aP 3 0 (Zi (x_.off.g i0).a8) mz k!)<|HH (show AV.same 20 (Zi (x_.off.g i0).a8) (Zi (x_.off.g i0).a8)=true from aS 19 _ _)<|HH (aP 3 1 (Zi (x_.off.g i0).aQ) mz k!)<|HH (show AV.same 20 (Zi (x_.off.g i0).aQ) (Zi (x_.off.g i0).aQ)=true from aS 19 _ _)<|TT<|CC<|ZZ) k!) (⟨xV,sW,by omega⟩) k!
      · have tF:=pK f3
        have s5:=fun {al ps} (k:Pk al _ ps)=>(n9<|BC f3<|BV f3 (gz 3 false true .i64 ((i0:Nat):Int) 0)<|BC f3<|k:Pk _ [] ps)
        rcases bu (decide (0<((i0:Nat):Int))) with f4 | f4
        · have J2:=jv f4
          have u15:=anC 3 false true i0 1 o! o!
          obtain ⟨p17,q18,Lm⟩:=(cC.has aA).elem (i:=(i0 - 1)) o!
          have E3:=((cC.has aA).has sW).part (t:=3) (j:=1) o! Lm k! rfl
          have Xd:=(cC.has aA).same 19
          have vR:=fun {al ps} (k:Pk al _ ps)=>(s5<|BC f4<|BM f4 (aP 3 0 (Zi (x_.off.g i0).a8) mz k!)<|BC f4<|BM f4 (aP 43 2 x_.cJ (tY _ _ o! (DU _ _ br)) k!)<|BC f4<|BV f4 u15<|BV f4 Lm<|BC f4<|BM f4 E3<|BV f4 (tx 3 false false .i64 (x_.off.g i0).a8 (x_.off.g (i0 - 1)).aQ)<|BV f3 (tp (decide ((x_.off.g i0).a8≤((x_.off.g (i0 - 1)).aQ))) false f4)<|VV (dD (a:=some (AV.bool true)) (b:=some (AV.bool (decide ((x_.off.g i0).a8≤((x_.off.g (i0 - 1)).aQ))))) f3)<|HH (aP 3 0 (Zi (x_.off.g i0).a8) mz k!)<|HH (show AV.same 20 (Zi (x_.off.g i0).a8) (Zi (x_.off.g i0).a8)=true from aS 19 _ _)<|HH (aP 3 1 (Zi (x_.off.g i0).aQ) mz k!)<|HH (show AV.same 20 (Zi (x_.off.g i0).aQ) (Zi (x_.off.g i0).aQ)=true from aS 19 _ _)<|HH (aP 3 0 (Zi (x_.off.g i0).a8) mz k!)<|HH (show AV.same 20 (Zi (x_.off.g i0).a8) (Zi (x_.off.g i0).a8)=true from aS 19 _ _)<|HH (aP 3 1 (Zi (x_.off.g i0).aQ) mz k!)<|HH (show AV.same 20 (Zi (x_.off.g i0).aQ) (Zi (x_.off.g i0).aQ)=true from aS 19 _ _)<|HH (aP 3 0 (Zi (x_.off.g i0).a8) mz k!)<|HH (show AV.same 20 (Zi (x_.off.g i0).a8) (Zi (x_.off.g i0).a8)=true from aS 19 _ _)<|HH (aP 43 2 x_.cJ (tY _ _ o! (DU _ _ br)) k!)<|HH Xd<|HH E3<|HH (show AV.same 20 (Zi (x_.off.g (i0 - 1)).aQ) (Zi (x_.off.g (i0 - 1)).aQ)=true from aS 19 _ _)<|k:Pk _ [] ps)
          rcases bu (decide ((x_.off.g i0).a8≤((x_.off.g (i0 - 1)).aQ))) with f5 | f5
          · have akS:=jv f5
            exact aC.ret 1 (by simp only[cM,f1,f2,f3,f4,f5,ao,ai]) (pk (d+1) _ _ hh _ h8 (vR<|BC f5<|ZZ) k!) (⟨xV,sW,by omega⟩) k!
          · have akS:=pK f5
            have u22:=eA 3 false true i0 1 o!
            exact aC.round (by simp only[cM,f1,f2,f3,f4,f5,ao,ai]) (pk (d+1) _ _ hh _ h8 (vR<|BC f5<|VV u22<|CC<|ZZ) k!) (⟨xV,sW,by omega⟩) _ k! (fun x=>mC x_ bj bp cC fI dx (i0+1) o! x h8 xV (aA.trans sW) (tY _ _ o! (DU _ _ br)))
        · have J2:=pK f4
          have u15:=eA 3 false true i0 1 o!
          exact aC.round (by simp only[cM,f1,f2,f3,f4,ao,ai]) (pk (d+1) _ _ hh _ h8 (s5<|BB f4<|BB f4<|BB f4<|BB f4<|BB f4<|BB f4<|BB f4<|BB f4<|BB f4<|BB f4<|BV f3 (vd false f4)<|VV (pcf true false f3)<|HH (aP 3 0 (Zi (x_.off.g i0).a8) mz k!)<|HH (show AV.same 20 (Zi (x_.off.g i0).a8) (Zi (x_.off.g i0).a8)=true from aS 19 _ _)<|HH (aP 3 1 (Zi (x_.off.g i0).aQ) mz k!)<|HH (show AV.same 20 (Zi (x_.off.g i0).aQ) (Zi (x_.off.g i0).aQ)=true from aS 19 _ _)<|HH (aP 3 0 (Zi (x_.off.g i0).a8) mz k!)<|HH (show AV.same 20 (Zi (x_.off.g i0).a8) (Zi (x_.off.g i0).a8)=true from aS 19 _ _)<|HH (aP 3 1 (Zi (x_.off.g i0).aQ) mz k!)<|HH (show AV.same 20 (Zi (x_.off.g i0).aQ) (Zi (x_.off.g i0).aQ)=true from aS 19 _ _)<|FF<|CC<|VV u15<|CC<|ZZ) k!) (⟨xV,sW,by omega⟩) _ k! (fun x=>mC x_ bj bp cC fI dx (i0+1) o! x h8 xV (aA.trans sW) (tY _ _ o! (DU _ _ br)))
def b9 (x_:aR):Int:=(bif (decide (x_.aI<0)) then 1 else (bif (decide (1000<x_.aI)) then 1 else (bif (decide (16<((x_.off.length:Nat):Int))) then 3 else (match (cM x_ x_.off.length 0) with | none=>0 | some ZD=>ZD))))
theorem DV {d:Nat} {h:az} (x_:aR) (tb:aK.ok h x_) (bM:Tidy h):cA (d+2) (.fn 70) [(AV.agg [(AV.str x_.name),(Zi x_.aI),x_.cJ])] h= .ret (Zi (b9 x_)) h:=by
 obtain ⟨h1,dw,de,jW,bx,ca⟩:=gQ bM (aN.cells [(AV.str x_.name),(Zi x_.aI),x_.cJ] 45 false)
 have bD:=ca
 have Fw:=fun {al ps} (k:Pk al _ ps)=>(NN dw (fun i=>(Pt i))<|CN 2<|MM (aP 3 1 (Zi x_.aI) bx k!)<|VV (bE 3 false true .i64 x_.aI 0)<|CC<|k:Pk _ [] ps)
 rcases bu (decide (x_.aI<0)) with f0 | f0
 · have e:b9 x_=1:=by simp only[b9,f0,ao,ai]
   rw[e]
   exact aG rfl (aY Tryz.func70 kl rfl (.inr rfl) (pk (d+1) _ _ h _ h1 (Fw<|BB f0<|BB f0<|BV f0 (tR true f0)<|TT<|CC<|ZZ) k!) k!) bD rfl
 · have Ex:=fun {al ps} (k:Pk al _ ps)=>(Fw<|BC f0<|BM f0 (aP 3 1 (Zi x_.aI) bx k!)<|BV f0 (gz 3 false true .i64 x_.aI 1000)<|VV (dD (a:=some (AV.bool true)) (b:=some (AV.bool (decide (1000<x_.aI)))) f0)<|k:Pk _ [] ps)
   rcases bu (decide (1000<x_.aI)) with f1 | f1
   · have e:b9 x_=1:=by simp only[b9,f0,f1,ao,ai]
     rw[e]
     exact aG rfl (aY Tryz.func70 kl rfl (.inr rfl) (pk (d+1) _ _ h _ h1 (Ex<|BC f1<|ZZ) k!) k!) bD rfl
   · have RQ:=tb.2.len
     have Hp:=fun {al ps} (k:Pk al _ ps)=>(Ex<|BC f1<|MM (aP 43 2 x_.cJ bx k!)<|VV RQ<|VV (gz 3 false true .i64 ((x_.off.length:Nat):Int) 16)<|k:Pk _ [] ps)
     rcases bu (decide (16<((x_.off.length:Nat):Int))) with f2 | f2
     · have e:b9 x_=3:=by simp only[b9,f0,f1,f2,ao,ai]
       rw[e]
       exact aG rfl (aY Tryz.func70 kl rfl (.inr rfl) (pk (d+1) _ _ h _ h1 (Hp<|BC f2<|ZZ) k!) k!) bD rfl
     · have lp9:=mC (d:=d) (h:=h) x_ h.nx tb.1 tb.2 tb x_.off.length 0 o! (dr ((AV.agg [(AV.str x_.name),(Zi x_.aI),x_.cJ])::(Pt h.nx)::(Zi 0)::(Zi 0)::aL::(AV.ptr h.nx 1)::(Zi x_.aI)::(AV.bool (decide (x_.aI<0)))::(AV.bool (decide (x_.aI<0)))::(AV.ptr h.nx 1)::(Zi x_.aI)::(AV.bool (decide (1000<x_.aI)))::(AV.bool (decide (1000<x_.aI)))::(AV.ptr h.nx 2)::x_.cJ::(Zn x_.off.length)::(AV.bool (decide (16<((x_.off.length:Nat):Int))))::iW 45)) h1 de bD bx
       cases wL:cM x_ x_.off.length 0 with
       | none=>
        obtain ⟨yl6,h7,wM,adt⟩:=aC.n wL lp9
        have cV:=bD.trans adt.a
        have e:b9 x_=0:=by simp only[b9,f0,f1,f2,wL,ao,ai]
        rw[e]
        exact aG rfl (aY Tryz.func70 kl rfl (.inr rfl) (pk (d+1) _ _ h _ h7 (Hp<|BC f2<|LL wM<|CC<|ZZ) k!) k!) cV rfl
       | some ZD=>
        obtain ⟨yl6,h7,wM,adt⟩:=aC.r wL lp9
        have cV:=bD.trans adt.a
        have e:b9 x_=ZD:=by simp only[b9,f0,f1,f2,wL,ao,ai]
        rw[e]
        exact aG rfl (aY Tryz.func70 kl rfl (.inr rfl) (pk (d+1) _ _ h _ h7 (Hp<|BC f2<|LL wM<|ZZ) k!) k!) cV rfl
def kZ:Code:=(Tryz.f71.body).getD .skip
theorem qo:Tryz.f71.body=some kZ:=by kernel_rfl
def Hr:Code:=(bl kZ).getD 0 .skip
def Hs:Code:=(bl kZ).getD 1 .skip
def Ht:Code:=(bl kZ).getD 2 .skip
def Hu:Code:=(bl kZ).getD 3 .skip
def fc (i0:Nat) (x_:Task):Nat→Nat→Option (Int)
 | 0,_=>none
 | nK+1,i1=>(bif (decide ((x_.aD.g i1)=(x_.aD.g i0))) then some 6 else fc i0 x_ nK (i1+1))
theorem vz {d:Nat} {h:az} (i0:Nat) (j:bP) (x_:Task) (b6:Nat) (dv:Nat) (eP:aO h j.au j.ab) (dW:aO h j.ar j.af) (mr:x_.name.length<2^60) (mW:bT h .i64 3 x_.bh x_.aD) (BS:aO h x_.bo x_.aB) (mQ:aK.ok h j) (C4:aK.ok h x_) (yH:i0<x_.aD.length):∀(k_ i_:Nat) (_:i_+k_=i0) (x:Nat→AV) (hh:az) (aF:Tidy hh) (aA:Has h hh) (cz:hh.get b6=some (aN.cells [j.au,j.ar] 25 false)) (d_:hh.get dv=some (aN.cells [(AV.str x_.name),(Zi x_.takes),x_.bh,x_.bo] 48 false)),aC (cA (d+1)) Hs ⟨((x 0)::(x 1)::(Pt b6)::(Pt dv)::(x 4)::(Zn i0)::(Zn i_)::rx x 7 102 []),hh,[],.no⟩ (.exit 2) hh (fun y=>((y 0)::(y 1)::(Pt b6)::(Pt dv)::(y 4)::(Zn i0)::rx y 6 103 [])) (fun r y=>((y 0)::(y 1)::(Pt b6)::(Pt dv)::(Zi r)::(Zn i0)::rx y 6 103 [])) (fc i0 x_ k_ i_)
 | 0,i1,eZ,x,hh,aF,aA,cz,d_=>by
  have q1:(decide (((i1:Nat):Int)<((i0:Nat):Int)))=false:=d!
  exact aC.out rfl (pk (d+1) _ _ hh _ hh (CN 2<|VV (bE 3 false false .i64 ((i1:Nat):Int) ((i0:Nat):Int))<|BB q1<|ZZ) k!) (Grow.refl aF) k!
 | nK+1,i1,eZ,x,hh,aF,aA,cz,d_=>by
  have pV:=eP.small
  have rC:=dW.small
  have UU:=mW.small
  have adm:=BS.small
  have E2:=aF _ _ cz
  have Oo:=aF _ _ d_
  have q1:(decide (((i1:Nat):Int)<((i0:Nat):Int)))=true:=d!
  obtain ⟨p3,q4,gh,_⟩:=(mW.has aA).elem (i:=i1) o!
  have kN:=(mW.has aA).load o! gh
  obtain ⟨p7,q8,MH,_⟩:=(mW.has aA).elem (i:=i0) o!
  have O9:=(mW.has aA).load o! MH
  have c10:=(mW.has aA).same 19
  have ei:=fun {al ps} (k:Pk al _ ps)=>(CN 2<|VV (bE 3 false false .i64 ((i1:Nat):Int) ((i0:Nat):Int))<|BC q1<|MM (aP 26 2 x_.bh d_ k!)<|CC<|VV gh<|MM kN<|CC<|MM (aP 26 2 x_.bh d_ k!)<|CC<|VV MH<|MM O9<|VV (Bo 3 false false .i64 (x_.aD.g i1) (x_.aD.g i0))<|HH (aP 26 2 x_.bh d_ k!)<|HH c10<|HH kN<|HH (show AV.same 20 (Zi (x_.aD.g i1)) (Zi (x_.aD.g i1))=true from aS 19 _ _)<|HH (aP 26 2 x_.bh d_ k!)<|HH c10<|HH O9<|HH (show AV.same 20 (Zi (x_.aD.g i0)) (Zi (x_.aD.g i0))=true from aS 19 _ _)<|k:Pk _ [] ps)
  rcases bu (decide ((x_.aD.g i1)=(x_.aD.g i0))) with f1 | f1
  · have eB:=jv f1
    exact aC.ret 6 (by simp only[fc,f1,ao,ai]) (pk (d+1) _ _ hh _ hh (ei<|BC f1<|ZZ) k!) (Grow.refl aF) k!
  · have eB:=pK f1
    have u12:=eA 3 false true i1 1 o!
    exact aC.round (by simp only[fc,f1,ao,ai]) (pk (d+1) _ _ hh _ hh (ei<|BC f1<|VV u12<|CC<|ZZ) k!) (Grow.refl aF) _ k! (fun x=>vz i0 j x_ b6 dv eP dW mr mW BS mQ C4 yH nK (i1+1) o! x hh aF aA cz d_)
def dL (x_:Task) (j:bP):Nat→Nat→Option (Int)
 | 0,_=>none
 | dx+1,i0=>(bif (decide ((x_.aD.g i0)<0)) then some 7 else (bif (decide (((j.ab.length:Nat):Int)≤(x_.aD.g i0))) then some 7 else (match (fc i0 x_ i0 0) with | none=>dL x_ j dx (i0+1) | some akT=>some akT)))
theorem vA {d:Nat} {h:az} (x_:Task) (j:bP) (bj:Nat) (cg:Nat) (bp:aO h j.au j.ab) (cC:aO h j.ar j.af) (dq:x_.name.length<2^60) (lG:bT h .i64 3 x_.bh x_.aD) (wy:aO h x_.bo x_.aB) (fI:aK.ok h j) (xW:aK.ok h x_):∀(k_ i_:Nat) (_:i_+k_=x_.aD.length) (x:Nat→AV) (hh:az) (aF:Tidy hh) (aA:Has h hh) (br:hh.get bj=some (aN.cells [j.au,j.ar] 25 false)) (dA:hh.get cg=some (aN.cells [(AV.str x_.name),(Zi x_.takes),x_.bh,x_.bo] 48 false)),aC (cA (d+1)) Hr ⟨((x 0)::(x 1)::(Pt bj)::(Pt cg)::(x 4)::(Zn i_)::rx x 6 103 []),hh,[],.no⟩ (.exit 0) hh (fun y=>((y 0)::(y 1)::(Pt bj)::(Pt cg)::rx y 4 105 [])) (fun r y=>((y 0)::(y 1)::(Pt bj)::(Pt cg)::(Zi r)::rx y 5 104 [])) (dL x_ j k_ i_)
 | 0,i0,eZ,x,hh,aF,aA,br,dA=>by
  have gd:=(lG.has aA).len
  have q2:(decide (((i0:Nat):Int)<((x_.aD.length:Nat):Int)))=false:=d!
  exact aC.out rfl (pk (d+1) _ _ hh _ hh (CN 2<|MM (aP 26 2 x_.bh dA k!)<|VV gd<|VV (bE 3 false false .i64 ((i0:Nat):Int) ((x_.aD.length:Nat):Int))<|BB q2<|ZZ) k!) (Grow.refl aF) k!
 | dx+1,i0,eZ,x,hh,aF,aA,br,dA=>by
  have gN:=bp.small
  have mw:=cC.small
  have JW:=lG.small
  have Uk:=wy.small
  have tD:=aF _ _ br
  have Lr:=aF _ _ dA
  have gd:=(lG.has aA).len
  have q2:(decide (((i0:Nat):Int)<((x_.aD.length:Nat):Int)))=true:=d!
  obtain ⟨p4,q5,oH,_⟩:=(lG.has aA).elem (i:=i0) o!
  have qm:=(lG.has aA).load o! oH
  have gK:=fun {al ps} (k:Pk al _ ps)=>(CN 2<|MM (aP 26 2 x_.bh dA k!)<|VV gd<|VV (bE 3 false false .i64 ((i0:Nat):Int) ((x_.aD.length:Nat):Int))<|BC q2<|MM (aP 26 2 x_.bh dA k!)<|CC<|VV oH<|MM qm<|VV (bE 3 false true .i64 (x_.aD.g i0) 0)<|CC<|k:Pk _ [] ps)
  rcases bu (decide ((x_.aD.g i0)<0)) with f1 | f1
  · have eB:=jv f1
    have c8:=(lG.has aA).same 19
    exact aC.ret 7 (by simp only[dL,f1,ao,ai]) (pk (d+1) _ _ hh _ hh (gK<|BB f1<|BB f1<|BB f1<|BB f1<|BB f1<|BB f1<|BB f1<|BB f1<|BV f1 (tR true f1)<|HH (aP 26 2 x_.bh dA k!)<|HH c8<|HH qm<|HH (show AV.same 20 (Zi (x_.aD.g i0)) (Zi (x_.aD.g i0))=true from aS 19 _ _)<|TT<|CC<|ZZ) k!) (Grow.refl aF) k!
  · have eB:=pK f1
    obtain ⟨p9,uL,GB,_⟩:=(lG.has aA).elem (i:=i0) o!
    have tG:=(lG.has aA).load o! GB
    have Uv:=(bp.has aA).len
    have Y2:=(lG.has aA).same 19
    have WL:=(bp.has aA).same 19
    have n9:=fun {al ps} (k:Pk al _ ps)=>(gK<|BC f1<|BM f1 (aP 26 2 x_.bh dA k!)<|BC f1<|BV f1 GB<|BM f1 tG<|BC f1<|BM f1 (aP 22 0 j.au br k!)<|BV f1 Uv<|BV f1 (tA 3 false false .i64 (x_.aD.g i0) ((j.ab.length:Nat):Int))<|VV (dD (a:=some (AV.bool true)) (b:=some (AV.bool (decide (((j.ab.length:Nat):Int)≤(x_.aD.g i0))))) f1)<|HH (aP 26 2 x_.bh dA k!)<|HH Y2<|HH qm<|HH (show AV.same 20 (Zi (x_.aD.g i0)) (Zi (x_.aD.g i0))=true from aS 19 _ _)<|HH (aP 26 2 x_.bh dA k!)<|HH Y2<|HH tG<|HH (show AV.same 20 (Zi (x_.aD.g i0)) (Zi (x_.aD.g i0))=true from aS 19 _ _)<|HH (aP 22 0 j.au br k!)<|HH WL<|k:Pk _ [] ps)
    rcases bu (decide (((j.ab.length:Nat):Int)≤(x_.aD.g i0))) with f2 | f2
    · have pX:=jv f2
      exact aC.ret 7 (by simp only[dL,f1,f2,ao,ai]) (pk (d+1) _ _ hh _ hh (n9<|BC f2<|ZZ) k!) (Grow.refl aF) k!
    · have pX:=pK f2
      have Sn:=vz (d:=d) (h:=hh) i0 j x_ bj cg (bp.has aA) (cC.has aA) dq (lG.has aA) (wy.has aA) (aK.mono aA fI) (aK.mono aA xW) o! i0 0 o! (dr ((x 0)::(x 1)::(Pt bj)::(Pt cg)::(x 4)::(Zn i0)::(Zi 0)::rx x 7 7 ((Zn i0)::(AV.ptr cg 2)::x_.bh::(Zn x_.aD.length)::(AV.bool (decide (((i0:Nat):Int)<((x_.aD.length:Nat):Int))))::(x 19)::(x 20)::(AV.ptr cg 2)::x_.bh::(Zn i0)::(AV.ptr p4 q5)::(Zi (x_.aD.g i0))::(AV.bool (decide ((x_.aD.g i0)<0)))::(AV.bool (decide ((x_.aD.g i0)<0)))::(AV.ptr cg 2)::x_.bh::(Zn i0)::(AV.ptr p9 uL)::(Zi (x_.aD.g i0))::(Pt bj)::j.au::(Zn j.ab.length)::(AV.bool (decide (((j.ab.length:Nat):Int)≤(x_.aD.g i0))))::(AV.bool (decide (((j.ab.length:Nat):Int)≤(x_.aD.g i0))))::rx x 38 71 []))) hh aF (Has.refl _) br dA
      cases H5:fc i0 x_ i0 0 with
      | none=>
       obtain ⟨aj2,Qf,wv,DW⟩:=aC.n H5 Sn
       have xu:=DW.y
       have Rs:hh.nx≤Qf.nx:=DW.n
       have vj:=DW.a
       have u18:=eA 3 false true i0 1 o!
       exact aC.round (by simp only[dL,f1,f2,H5,ao,ai]) (pk (d+1) _ _ hh _ Qf (n9<|BC f2<|LL wv<|CC<|VV u18<|CC<|ZZ) k!) (⟨xu,vj,by omega⟩) _ k! (fun x=>vA x_ j bj cg bp cC dq lG wy fI xW dx (i0+1) o! x Qf xu (aA.trans vj) (DW.a _ _ br) (DW.a _ _ dA))
      | some akT=>
       obtain ⟨aj2,Qf,wv,DW⟩:=aC.r H5 Sn
       have xu:=DW.y
       have Rs:hh.nx≤Qf.nx:=DW.n
       have vj:=DW.a
       exact aC.ret akT (by simp only[dL,f1,f2,H5,ao,ai]) (pk (d+1) _ _ hh _ Qf (n9<|BC f2<|LL wv<|ZZ) k!) (⟨xu,vj,by omega⟩) k!
def fe (i2:Nat) (x_:Task):Nat→Nat→Option (Int)
 | 0,_=>none
 | DF+1,i3=>(bif (decide ((x_.aB.g i3).ah=((x_.aB.g i2).ah))) then some 6 else fe i2 x_ DF (i3+1))
theorem vB {d:Nat} {h:az} (i2:Nat) (j:bP) (x_:Task) (nU:Nat) (sd:Nat) (se:Nat) (lP:aO h j.au j.ab) (vu:aO h j.ar j.af) (Fu:x_.name.length<2^60) (Hm:bT h .i64 3 x_.bh x_.aD) (Hn:aO h x_.bo x_.aB) (BR:aK.ok h j) (LN:aK.ok h x_) (R7:aK.ok h (x_.aB.g i2)) (Sp:i2<x_.aB.length):∀(k_ i_:Nat) (_:i_+k_=i2) (x:Nat→AV) (hh:az) (aF:Tidy hh) (aA:Has h hh) (mh:hh.get nU=some (aN.cells [j.au,j.ar] 25 false)) (py:hh.get sd=some (aN.cells [(AV.str x_.name),(Zi x_.takes),x_.bh,x_.bo] 48 false)) (ov:hh.get se=some (aN.cells [(Zi (x_.aB.g i2).ah),(Zi (x_.aB.g i2).aI)] 50 false)),aC (cA (d+1)) Hu ⟨((x 0)::(x 1)::(Pt nU)::(Pt sd)::rx x 4 3 ((Zn i2)::(Pt se)::(Zn i_)::rx x 10 99 [])),hh,[],.no⟩ (.exit 6) hh (fun y=>((y 0)::(y 1)::(Pt nU)::(Pt sd)::rx y 4 3 ((Zn i2)::(Pt se)::rx y 9 100 []))) (fun r y=>((y 0)::(y 1)::(Pt nU)::(Pt sd)::(Zi r)::(y 5)::(y 6)::(Zn i2)::(Pt se)::rx y 9 100 [])) (fe i2 x_ k_ i_)
 | 0,i3,eZ,x,hh,aF,aA,mh,py,ov=>by
  have q1:(decide (((i3:Nat):Int)<((i2:Nat):Int)))=false:=d!
  exact aC.out rfl (pk (d+1) _ _ hh _ hh (CN 2<|VV (bE 3 false false .i64 ((i3:Nat):Int) ((i2:Nat):Int))<|BB q1<|ZZ) k!) (Grow.refl aF) k!
 | DF+1,i3,eZ,x,hh,aF,aA,mh,py,ov=>by
  have J1:=lP.small
  have OZ:=vu.small
  have acQ:=Hm.small
  have asf:=Hn.small
  have agI:=aF _ _ mh
  have akA:=aF _ _ py
  have akB:=aF _ _ ov
  have q1:(decide (((i3:Nat):Int)<((i2:Nat):Int)))=true:=d!
  obtain ⟨p3,q4,gh⟩:=(Hn.has aA).elem (i:=i3) o!
  have kN:=(Hn.has aA).part (t:=3) (j:=0) o! gh k! rfl
  have c6:=(Hn.has aA).same 19
  have s5:=fun {al ps} (k:Pk al _ ps)=>(CN 2<|VV (bE 3 false false .i64 ((i3:Nat):Int) ((i2:Nat):Int))<|BC q1<|MM (aP 46 3 x_.bo py k!)<|CC<|VV gh<|CC<|MM kN<|CC<|MM (aP 3 0 (Zi (x_.aB.g i2).ah) ov k!)<|VV (Bo 3 false false .i64 (x_.aB.g i3).ah (x_.aB.g i2).ah)<|HH (aP 46 3 x_.bo py k!)<|HH c6<|HH kN<|HH (show AV.same 20 (Zi (x_.aB.g i3).ah) (Zi (x_.aB.g i3).ah)=true from aS 19 _ _)<|HH (aP 3 0 (Zi (x_.aB.g i2).ah) ov k!)<|HH (show AV.same 20 (Zi (x_.aB.g i2).ah) (Zi (x_.aB.g i2).ah)=true from aS 19 _ _)<|k:Pk _ [] ps)
  rcases bu (decide ((x_.aB.g i3).ah=((x_.aB.g i2).ah))) with f1 | f1
  · have eB:=jv f1
    exact aC.ret 6 (by simp only[fe,f1,ao,ai]) (pk (d+1) _ _ hh _ hh (s5<|BC f1<|ZZ) k!) (Grow.refl aF) k!
  · have eB:=pK f1
    have u8:=eA 3 false true i3 1 o!
    exact aC.round (by simp only[fe,f1,ao,ai]) (pk (d+1) _ _ hh _ hh (s5<|BC f1<|VV u8<|CC<|ZZ) k!) (Grow.refl aF) _ k! (fun x=>vB i2 j x_ nU sd se lP vu Fu Hm Hn BR LN R7 Sp DF (i3+1) o! x hh aF aA mh py ov)
def cS (x_:Task) (j:bP):Nat→Nat→Option (Int)
 | 0,_=>none
 | DD+1,i2=>(bif (decide ((x_.aB.g i2).ah<0)) then some 7 else (bif (decide (((j.af.length:Nat):Int)≤((x_.aB.g i2).ah))) then some 7 else (match (fe i2 x_ i2 0) with | none=>(bif (decide ((x_.aB.g i2).aI<1)) then some 1 else (bif (decide (1000<((x_.aB.g i2).aI))) then some 1 else (bif (decide ((j.af.g (x_.aB.g i2).ah.toNat).aI<((x_.aB.g i2).aI))) then some 9 else cS x_ j DD (i2+1)))) | some akU=>some akU)))
theorem vC {d:Nat} {h:az} (x_:Task) (j:bP) (jD:Nat) (l5:Nat) (ky:aO h j.au j.ab) (lp:aO h j.ar j.af) (xZ:x_.name.length<2^60) (nS:bT h .i64 3 x_.bh x_.aD) (JZ:aO h x_.bo x_.aB) (uM:aK.ok h j) (BQ:aK.ok h x_):∀(k_ i_:Nat) (_:i_+k_=x_.aB.length) (x:Nat→AV) (hh:az) (aF:Tidy hh) (aA:Has h hh) (iO:hh.get jD=some (aN.cells [j.au,j.ar] 25 false)) (nA:hh.get l5=some (aN.cells [(AV.str x_.name),(Zi x_.takes),x_.bh,x_.bo] 48 false)),aC (cA (d+1)) Ht ⟨((x 0)::(x 1)::(Pt jD)::(Pt l5)::rx x 4 3 ((Zn i_)::rx x 8 101 [])),hh,[],.no⟩ (.exit 4) hh (fun y=>((y 0)::(y 1)::(Pt jD)::(Pt l5)::rx y 4 105 [])) (fun r y=>((y 0)::(y 1)::(Pt jD)::(Pt l5)::(Zi r)::rx y 5 104 [])) (cS x_ j k_ i_)
 | 0,i2,eZ,x,hh,aF,aA,iO,nA=>by
  have gd:=(JZ.has aA).len
  have q2:(decide (((i2:Nat):Int)<((x_.aB.length:Nat):Int)))=false:=d!
  exact aC.out rfl (pk (d+1) _ _ hh _ hh (CN 2<|MM (aP 46 3 x_.bo nA k!)<|VV gd<|VV (bE 3 false false .i64 ((i2:Nat):Int) ((x_.aB.length:Nat):Int))<|BB q2<|ZZ) k!) (Grow.refl aF) k!
 | DD+1,i2,eZ,x,hh,aF,aA,iO,nA=>by
  have Ft:=ky.small
  have J0:=lp.small
  have OY:=nS.small
  have asg:=JZ.small
  have acO:=aF _ _ iO
  have agH:=aF _ _ nA
  have gd:=(JZ.has aA).len
  have q2:(decide (((i2:Nat):Int)<((x_.aB.length:Nat):Int)))=true:=d!
  obtain ⟨p4,q5,oH⟩:=(JZ.has aA).elem (i:=i2) o!
  have qm:=(JZ.has aA).load o! oH
  obtain ⟨h7,akQ,dM,r5,dS,DU⟩:=gQ aF (aN.cells [(Zi 0),(Zi 0)] 50 false)
  have cV:=DU
  obtain ⟨h8,akR,xV,ajY,mz,tY⟩:=j_ (t:=50) (n:=2) (i:=hh.nx) (L:=[(Zi (x_.aB.g i2).ah),(Zi (x_.aB.g i2).aI)]) dM dS k! rfl rfl rfl
  have sW:=Has.bK cV tY aF o!
  have vR:=fun {al ps} (k:Pk al _ ps)=>(CN 2<|MM (aP 46 3 x_.bo nA k!)<|VV gd<|VV (bE 3 false false .i64 ((i2:Nat):Int) ((x_.aB.length:Nat):Int))<|BC q2<|MM (aP 46 3 x_.bo nA k!)<|CC<|VV oH<|MM qm<|NN akQ (fun i=>(Pt i))<|SS akR<|CC<|MM (aP 3 0 (Zi (x_.aB.g i2).ah) mz k!)<|VV (bE 3 false true .i64 (x_.aB.g i2).ah 0)<|CC<|k:Pk _ [] ps)
  rcases bu (decide ((x_.aB.g i2).ah<0)) with f1 | f1
  · have eB:=jv f1
    exact aC.ret 7 (by simp only[cS,f1,ao,ai]) (pk (d+1) _ _ hh _ h8 (vR<|BB f1<|BB f1<|BB f1<|BB f1<|BB f1<|BV f1 (tR true f1)<|TT<|CC<|ZZ) k!) (⟨xV,sW,by omega⟩) k!
  · have eB:=pK f1
    have uN:=(lp.has aA).len
    have Fw:=fun {al ps} (k:Pk al _ ps)=>(vR<|BC f1<|BM f1 (aP 3 0 (Zi (x_.aB.g i2).ah) mz k!)<|BC f1<|BM f1 (aP 23 1 j.ar (tY _ _ o! (DU _ _ iO)) k!)<|BV f1 uN<|BV f1 (tA 3 false false .i64 (x_.aB.g i2).ah ((j.af.length:Nat):Int))<|VV (dD (a:=some (AV.bool true)) (b:=some (AV.bool (decide (((j.af.length:Nat):Int)≤((x_.aB.g i2).ah))))) f1)<|k:Pk _ [] ps)
    rcases bu (decide (((j.af.length:Nat):Int)≤((x_.aB.g i2).ah))) with f2 | f2
    · have pX:=jv f2
      exact aC.ret 7 (by simp only[cS,f1,f2,ao,ai]) (pk (d+1) _ _ hh _ h8 (Fw<|BC f2<|ZZ) k!) (⟨xV,sW,by omega⟩) k!
    · have pX:=pK f2
      have Kc:=vB (d:=d) (h:=hh) i2 j x_ jD l5 hh.nx (ky.has aA) (lp.has aA) xZ (nS.has aA) (JZ.has aA) (aK.mono aA uM) (aK.mono aA BQ) ((JZ.has aA).ok (i:=i2) o!) o! i2 0 o! (dr ((x 0)::(x 1)::(Pt jD)::(Pt l5)::rx x 4 3 ((Zn i2)::(Pt hh.nx)::(Zi 0)::rx x 10 44 ((Zn i2)::(AV.ptr l5 3)::x_.bo::(Zn x_.aB.length)::(AV.bool (decide (((i2:Nat):Int)<((x_.aB.length:Nat):Int))))::(x 59)::(x 60)::(AV.ptr l5 3)::x_.bo::(Zn i2)::(AV.ptr p4 q5)::(AV.agg [(Zi (x_.aB.g i2).ah),(Zi (x_.aB.g i2).aI)])::(Pt hh.nx)::(Zi (x_.aB.g i2).ah)::(AV.bool (decide ((x_.aB.g i2).ah<0)))::(AV.bool (decide ((x_.aB.g i2).ah<0)))::(Pt hh.nx)::(Zi (x_.aB.g i2).ah)::(AV.ptr jD 1)::j.ar::(Zn j.af.length)::(AV.bool (decide (((j.af.length:Nat):Int)≤((x_.aB.g i2).ah))))::(AV.bool (decide (((j.af.length:Nat):Int)≤((x_.aB.g i2).ah))))::rx x 77 32 [])))) h8 xV sW (tY _ _ o! (DU _ _ iO)) (tY _ _ o! (DU _ _ nA)) mz
      cases wN:fe i2 x_ i2 0 with
      | none=>
       obtain ⟨ash,rk,Pe,km⟩:=aC.n wN Kc
       have jy:=km.y
       have aiG:h8.nx≤rk.nx:=km.n
       have gG:=sW.trans km.a
       have Ex:=fun {al ps} (k:Pk al _ ps)=>(Fw<|BC f2<|LL Pe<|CC<|MM (aP 3 1 (Zi (x_.aB.g i2).aI) (km.a _ _ mz) k!)<|VV (bE 3 false true .i64 (x_.aB.g i2).aI 1)<|CC<|k:Pk _ [] ps)
       rcases bu (decide ((x_.aB.g i2).aI<1)) with f4 | f4
       · have J2:=jv f4
         exact aC.ret 1 (by simp only[cS,f1,f2,wN,f4,ao,ai]) (pk (d+1) _ _ hh _ rk (Ex<|BB f4<|BB f4<|BV f4 (tR true f4)<|TT<|CC<|ZZ) k!) (⟨jy,gG,by omega⟩) k!
       · have J2:=pK f4
         have Hp:=fun {al ps} (k:Pk al _ ps)=>(Ex<|BC f4<|BM f4 (aP 3 1 (Zi (x_.aB.g i2).aI) (km.a _ _ mz) k!)<|BV f4 (gz 3 false true .i64 (x_.aB.g i2).aI 1000)<|VV (dD (a:=some (AV.bool true)) (b:=some (AV.bool (decide (1000<((x_.aB.g i2).aI))))) f4)<|k:Pk _ [] ps)
         rcases bu (decide (1000<((x_.aB.g i2).aI))) with f5 | f5
         · have akS:=jv f5
           exact aC.ret 1 (by simp only[cS,f1,f2,wN,f4,f5,ao,ai]) (pk (d+1) _ _ hh _ rk (Hp<|BC f5<|ZZ) k!) (⟨jy,gG,by omega⟩) k!
         · have akS:=pK f5
           obtain ⟨p17,q18,R4⟩:=(lp.has aA).elem (i:=((x_.aB.g i2).ah).toNat) o!
           have Lm:=xn R4 o!
           have E3:=((lp.has aA).has gG).part (t:=3) (j:=1) o! R4 k! rfl
           have Xd:=(lp.has aA).same 19
           have LP:=fun {al ps} (k:Pk al _ ps)=>(Hp<|BC f5<|MM (aP 3 1 (Zi (x_.aB.g i2).aI) (km.a _ _ mz) k!)<|CC<|MM (aP 23 1 j.ar (km.a _ _ (tY _ _ o! (DU _ _ iO))) k!)<|CC<|MM (aP 3 0 (Zi (x_.aB.g i2).ah) (km.a _ _ mz) k!)<|VV Lm<|CC<|MM E3<|VV (gz 3 false false .i64 (x_.aB.g i2).aI (j.af.g (x_.aB.g i2).ah.toNat).aI)<|HH (aP 3 1 (Zi (x_.aB.g i2).aI) (km.a _ _ mz) k!)<|HH (show AV.same 20 (Zi (x_.aB.g i2).aI) (Zi (x_.aB.g i2).aI)=true from aS 19 _ _)<|HH (aP 23 1 j.ar (km.a _ _ (tY _ _ o! (DU _ _ iO))) k!)<|HH Xd<|HH (aP 3 0 (Zi (x_.aB.g i2).ah) (km.a _ _ mz) k!)<|HH (show AV.same 20 (Zi (x_.aB.g i2).ah) (Zi (x_.aB.g i2).ah)=true from aS 19 _ _)<|HH E3<|HH (show AV.same 20 (Zi (j.af.g (x_.aB.g i2).ah.toNat).aI) (Zi (j.af.g (x_.aB.g i2).ah.toNat).aI)=true from aS 19 _ _)<|k:Pk _ [] ps)
           rcases bu (decide ((j.af.g (x_.aB.g i2).ah.toNat).aI<((x_.aB.g i2).aI))) with f6 | f6
           · have asi:=jv f6
             exact aC.ret 9 (by simp only[cS,f1,f2,wN,f4,f5,f6,ao,ai]) (pk (d+1) _ _ hh _ rk (LP<|BC f6<|ZZ) k!) (⟨jy,gG,by omega⟩) k!
           · have asi:=pK f6
             have u22:=eA 3 false true i2 1 o!
             exact aC.round (by simp only[cS,f1,f2,wN,f4,f5,f6,ao,ai]) (pk (d+1) _ _ hh _ rk (LP<|BC f6<|VV u22<|CC<|ZZ) k!) (⟨jy,gG,by omega⟩) _ k! (fun x=>vC x_ j jD l5 ky lp xZ nS JZ uM BQ DD (i2+1) o! x rk jy (aA.trans gG) (km.a _ _ (tY _ _ o! (DU _ _ iO))) (km.a _ _ (tY _ _ o! (DU _ _ nA))))
      | some akU=>
       obtain ⟨ash,rk,Pe,km⟩:=aC.r wN Kc
       have jy:=km.y
       have aiG:h8.nx≤rk.nx:=km.n
       have gG:=sW.trans km.a
       exact aC.ret akU (by simp only[cS,f1,f2,wN,ao,ai]) (pk (d+1) _ _ hh _ rk (Fw<|BC f2<|LL Pe<|ZZ) k!) (⟨jy,gG,by omega⟩) k!
def dE (j:bP) (x_:Task):Int:=(bif (!(eO x_.takes)) then 1 else (match (dL x_ j x_.aD.length 0) with | none=>(match (cS x_ j x_.aB.length 0) with | none=>0 | some rr7=>rr7) | some rr5=>rr5))
theorem LU {d:Nat} {h:az} (j:bP) (x_:Task) (b7:aK.ok h j) (tb:aK.ok h x_) (bM:Tidy h):cA (d+2) (.fn 71) [(AV.agg [j.au,j.ar]),(AV.agg [(AV.str x_.name),(Zi x_.takes),x_.bh,x_.bo])] h= .ret (Zi (dE j x_)) h:=by
 obtain ⟨h1,dw,de,jW,bx,ca⟩:=gQ bM (aN.cells [j.au,j.ar] 25 false)
 have bD:=ca
 obtain ⟨h2,r7,mN,I4,ka,iM⟩:=gQ de (aN.cells [(AV.str x_.name),(Zi x_.takes),x_.bh,x_.bo] 48 false)
 have gm:=bD.trans iM
 have k3:=zW (d:=d) x_.takes mN
 have DG:=fun {al ps} (k:Pk al _ ps)=>(NN dw (fun i=>(Pt i))<|NN r7 (fun i=>(Pt i))<|CN 2<|MM (aP 3 1 (Zi x_.takes) ka k!)<|EE k3<|CC<|k:Pk _ [] ps)
 rcases bu (!(eO x_.takes)) with f0 | f0
 · have e:dE j x_=1:=by simp only[dE,f0,ao,ai]
   rw[e]
   exact aG rfl (aY Tryz.func71 qo rfl (.inr rfl) (pk (d+1) _ _ h _ h2 (DG<|BC f0<|ZZ) k!) k!) gm rfl
 · have Kd:=vA (d:=d) (h:=h) x_ j h.nx h1.nx b7.1 b7.2 tb.1 tb.2.1 tb.2.2 b7 tb x_.aD.length 0 o! (dr ((AV.agg [j.au,j.ar])::(AV.agg [(AV.str x_.name),(Zi x_.takes),x_.bh,x_.bo])::(Pt h.nx)::(Pt h1.nx)::(Zi 0)::(Zi 0)::aL::aL::aL::aL::(AV.ptr h1.nx 1)::(Zi x_.takes)::(AV.bool (eO x_.takes))::(AV.bool (!(eO x_.takes)))::iW 95)) h2 mN gm (iM _ _ bx) ka
   cases Ke:dL x_ j x_.aD.length 0 with
   | none=>
    obtain ⟨Zc,h6,uJ,U5⟩:=aC.n Ke Kd
    have ig:=U5.y
    have gL:=gm.trans U5.a
    have R':=vC (d:=d) (h:=h) x_ j h.nx h1.nx b7.1 b7.2 tb.1 tb.2.1 tb.2.2 b7 tb x_.aB.length 0 o! (dr ((Zc 0)::(Zc 1)::(Pt h.nx)::(Pt h1.nx)::rx Zc 4 3 ((Zi 0)::rx Zc 8 101 []))) h6 ig gL (U5.a _ _ (iM _ _ bx)) (U5.a _ _ ka)
    cases Pf:cS x_ j x_.aB.length 0 with
    | none=>
     obtain ⟨yl7,h8,U6,akV⟩:=aC.n Pf R'
     have sW:=gL.trans akV.a
     have e:dE j x_=0:=by simp only[dE,f0,Ke,Pf,ao,ai]
     rw[e]
     exact aG rfl (aY Tryz.func71 qo rfl (.inr rfl) (pk (d+1) _ _ h _ h8 (DG<|BC f0<|LL uJ<|CC<|LL U6<|CC<|ZZ) k!) k!) sW rfl
    | some rr7=>
     obtain ⟨yl7,h8,U6,akV⟩:=aC.r Pf R'
     have sW:=gL.trans akV.a
     have e:dE j x_=rr7:=by simp only[dE,f0,Ke,Pf,ao,ai]
     rw[e]
     exact aG rfl (aY Tryz.func71 qo rfl (.inr rfl) (pk (d+1) _ _ h _ h8 (DG<|BC f0<|LL uJ<|CC<|LL U6<|ZZ) k!) k!) sW rfl
   | some rr5=>
    obtain ⟨Zc,h6,uJ,U5⟩:=aC.r Ke Kd
    have ig:=U5.y
    have gL:=gm.trans U5.a
    have e:dE j x_=rr5:=by simp only[dE,f0,Ke,ao,ai]
    rw[e]
    exact aG rfl (aY Tryz.func71 qo rfl (.inr rfl) (pk (d+1) _ _ h _ h6 (DG<|BC f0<|LL uJ<|ZZ) k!) k!) gL rfl
theorem U7 {x:Int} (h:eO x=true):0≤x∧x≤100000:=by
 unfold eO at h
 by_cases q:0≤x
 · rw[eV q] at h;exact ⟨q,jv h⟩
 · rw[fL q] at h;cases h
theorem tZ {i0:Nat} {x:Task}:∀{k i:Nat} {r:Int},fc i0 x k i=some r→r≠0
 | 0,i,r,h=>by cases h
 | k+1,i,r,h=>by
  rw[fc] at h
  cases q:decide (x.aD.g i=x.aD.g i0) with
  | true=>rw[q] at h;cases h;decide
  | false=>rw[q] at h;exact tZ (k:=k) h
theorem ua {i0:Nat} {x:Task}:∀{k i:Nat} {r:Int},fe i0 x k i=some r→r≠0
 | 0,i,r,h=>by cases h
 | k+1,i,r,h=>by
  rw[fe] at h
  cases q:decide ((x.aB.g i).ah=(x.aB.g i0).ah) with
  | true=>rw[q] at h;cases h;decide
  | false=>rw[q] at h;exact ua (k:=k) h
theorem pz {j:bP} {x:Task}:∀{k i:Nat},(dL x j k i=none→∀q,i≤q→q<i+k→0≤x.aD.g q∧x.aD.g q<(j.ab.length:Int))∧(∀r,dL x j k i=some r→r≠0)
 | 0,i=>⟨fun _ q h1 h2=>by omega,fun r h=>by cases h⟩
 | k+1,i=>by
  have ih:=pz (j:=j) (x:=x) (k:=k) (i:=i+1)
  rw[dL]
  by_cases a:x.aD.g i<0
  · rw[eV a];exact ⟨(fun h=>by cases h),(fun r h=>by cases h;decide)⟩
  · by_cases b:(j.ab.length:Int)≤x.aD.g i
    · rw[fL a,eV b];exact ⟨(fun h=>by cases h),(fun r h=>by cases h;decide)⟩
    · rw[fL a,fL b]
      cases c:fc i x i 0 with
      | some r0=>exact ⟨(fun h=>by cases h),(fun r h=>by cases h;exact tZ c)⟩
      | none=>
       refine ⟨fun h q h1 h2=>?_,ih.2⟩
       by_cases e:q=i
       · rw[e];omega
       · exact ih.1 h q o! o!
theorem pA {j:bP} {x:Task}:∀{k i:Nat},(cS x j k i=none→∀q,i≤q→q<i+k→0≤(x.aB.g q).ah∧(x.aB.g q).ah<(j.af.length:Int))∧(∀r,cS x j k i=some r→r≠0)
 | 0,i=>⟨fun _ q h1 h2=>by omega,fun r h=>by cases h⟩
 | k+1,i=>by
  have ih:=pA (j:=j) (x:=x) (k:=k) (i:=i+1)
  rw[cS]
  by_cases a:(x.aB.g i).ah<0
  · rw[eV a];exact ⟨(fun h=>by cases h),(fun r h=>by cases h;decide)⟩
  · by_cases b:(j.af.length:Int)≤(x.aB.g i).ah
    · rw[fL a,eV b];exact ⟨(fun h=>by cases h),(fun r h=>by cases h;decide)⟩
    · rw[fL a,fL b]
      cases c:fe i x i 0 with
      | some r0=>exact ⟨(fun h=>by cases h),(fun r h=>by cases h;exact ua c)⟩
      | none=>
       cases d1:decide ((x.aB.g i).aI<1) with
       | true=>exact ⟨(fun h=>by cases h),(fun r h=>by cases h;decide)⟩
       | false=>
        cases d2:decide (1000<(x.aB.g i).aI) with
        | true=>exact ⟨(fun h=>by cases h),(fun r h=>by cases h;decide)⟩
        | false=>
         cases d3:decide ((j.af.g (Int.toNat (x.aB.g i).ah)).aI<(x.aB.g i).aI) with
         | true=>exact ⟨(fun h=>by cases h),(fun r h=>by cases h;decide)⟩
         | false=>
          refine ⟨fun h q h1 h2=>?_,ih.2⟩
          by_cases e:q=i
          · rw[e];omega
          · exact ih.1 h q o! o!
theorem zi {j:bP} {x:Task} (h:dE j x=0):(0≤x.takes∧x.takes≤100000)∧(∀q,q<x.aD.length→0≤x.aD.g q∧x.aD.g q<(j.ab.length:Int))∧(∀q,q<x.aB.length→0≤(x.aB.g q).ah∧(x.aB.g q).ah<(j.af.length:Int)):=by
 unfold dE at h
 cases t:eO x.takes with
 | false=>rw[t] at h;cases h
 | true=>
  rw[t] at h
  cases a:dL x j x.aD.length 0 with
  | some r=>rw[a] at h;exact absurd h (pz.2 r a)
  | none=>
   rw[a] at h
   cases b:cS x j x.aB.length 0 with
   | some r=>rw[b] at h;exact absurd h (pA.2 r b)
   | none=>exact ⟨U7 t,fun q hq=>pz.1 a q o! o!,fun q hq=>pA.1 b q o! o!⟩
def pB:Code:=(Tryz.f26.body).getD .skip
theorem sy:Tryz.f26.body=some pB:=by kernel_rfl
def Sq:Code:=(bl pB).getD 0 .skip
def Sr:Code:=(bl pB).getD 1 .skip
def Ss:Code:=(bl pB).getD 2 .skip
def Su:Code:=(bl pB).getD 3 .skip
def jE (i0:Nat) (j:bP):Nat→Nat→Option (Int)
 | 0,_=>none
 | nK+1,i1=>(bif (decide ((j.af.g i1).name=((j.af.g i0).name))) then some 6 else jE i0 j nK (i1+1))
theorem DX {d:Nat} {h:az} (i0:Nat) (j:bP) (b6:Nat) (eP:aO h j.au j.ab) (dW:aO h j.ar j.af) (mQ:aK.ok h j) (yH:i0<j.af.length):∀(k_ i_:Nat) (_:i_+k_=i0) (x:Nat→AV) (hh:az) (aF:Tidy hh) (aA:Has h hh) (cz:hh.get b6=some (aN.cells [j.au,j.ar] 25 false)),aC (cA (d+2)) Sr ⟨((x 0)::(Pt b6)::(x 2)::(Zn i0)::(Zn i_)::rx x 5 104 []),hh,[],.no⟩ (.exit 2) hh (fun y=>((y 0)::(Pt b6)::(y 2)::(Zn i0)::rx y 4 105 [])) (fun r y=>((y 0)::(Pt b6)::(Zi r)::(Zn i0)::rx y 4 105 [])) (jE i0 j k_ i_)
 | 0,i1,eZ,x,hh,aF,aA,cz=>by
  have q1:(decide (((i1:Nat):Int)<((i0:Nat):Int)))=false:=d!
  exact aC.out rfl (pk (d+2) _ _ hh _ hh (CN 2<|VV (bE 3 false false .i64 ((i1:Nat):Int) ((i0:Nat):Int))<|BB q1<|ZZ) k!) (Grow.refl aF) k!
 | nK+1,i1,eZ,x,hh,aF,aA,cz=>by
  have pV:=eP.small
  have rC:=dW.small
  have E2:=aF _ _ cz
  have q1:(decide (((i1:Nat):Int)<((i0:Nat):Int)))=true:=d!
  obtain ⟨p3,q4,gh⟩:=(dW.has aA).elem (i:=i1) o!
  have kN:=(dW.has aA).part (t:=9) (j:=0) o! gh k! rfl
  obtain ⟨p7,q8,MH⟩:=(dW.has aA).elem (i:=i0) o!
  have O9:=(dW.has aA).part (t:=9) (j:=0) o! MH k! rfl
  have c10:=(dW.has aA).same 19
  have ei:=fun {al ps} (k:Pk al _ ps)=>(CN 2<|VV (bE 3 false false .i64 ((i1:Nat):Int) ((i0:Nat):Int))<|BC q1<|MM (aP 23 1 j.ar cz k!)<|CC<|VV gh<|CC<|MM kN<|CC<|MM (aP 23 1 j.ar cz k!)<|CC<|VV MH<|CC<|MM O9<|VV (YK 9 false false (j.af.g i1).name (j.af.g i0).name)<|HH (aP 23 1 j.ar cz k!)<|HH c10<|HH kN<|HH (show AV.same 20 (AV.str (j.af.g i1).name) (AV.str (j.af.g i1).name)=true from j8 19 _)<|HH (aP 23 1 j.ar cz k!)<|HH c10<|HH O9<|HH (show AV.same 20 (AV.str (j.af.g i0).name) (AV.str (j.af.g i0).name)=true from j8 19 _)<|k:Pk _ [] ps)
  rcases bu (decide ((j.af.g i1).name=((j.af.g i0).name))) with f1 | f1
  · have eB:=jv f1
    exact aC.ret 6 (by simp only[jE,f1,ao,ai]) (pk (d+2) _ _ hh _ hh (ei<|BC f1<|ZZ) k!) (Grow.refl aF) k!
  · have eB:=pK f1
    have u12:=eA 3 false true i1 1 o!
    exact aC.round (by simp only[jE,f1,ao,ai]) (pk (d+2) _ _ hh _ hh (ei<|BC f1<|VV u12<|CC<|ZZ) k!) (Grow.refl aF) _ k! (fun x=>DX i0 j b6 eP dW mQ yH nK (i1+1) o! x hh aF aA cz)
def gU (j:bP):Nat→Nat→Option (Int)
 | 0,_=>none
 | dx+1,i0=>(bif (!(gk (j.af.g i0).name)) then some 5 else (match (jE i0 j i0 0) with | none=>(bif (!decide ((b9 (j.af.g i0))=0)) then some (b9 (j.af.g i0)) else gU j dx (i0+1)) | some rr9=>some rr9))
theorem DY {d:Nat} {h:az} (j:bP) (bj:Nat) (bp:aO h j.au j.ab) (cC:aO h j.ar j.af) (fI:aK.ok h j):∀(k_ i_:Nat) (_:i_+k_=j.af.length) (x:Nat→AV) (hh:az) (aF:Tidy hh) (aA:Has h hh) (br:hh.get bj=some (aN.cells [j.au,j.ar] 25 false)),aC (cA (d+2)) Sq ⟨((x 0)::(Pt bj)::(x 2)::(Zn i_)::rx x 4 105 []),hh,[],.no⟩ (.exit 0) hh (fun y=>((y 0)::(Pt bj)::rx y 2 107 [])) (fun r y=>((y 0)::(Pt bj)::(Zi r)::rx y 3 106 [])) (gU j k_ i_)
 | 0,i0,eZ,x,hh,aF,aA,br=>by
  have gd:=(cC.has aA).len
  have q2:(decide (((i0:Nat):Int)<((j.af.length:Nat):Int)))=false:=d!
  exact aC.out rfl (pk (d+2) _ _ hh _ hh (CN 2<|MM (aP 23 1 j.ar br k!)<|VV gd<|VV (bE 3 false false .i64 ((i0:Nat):Int) ((j.af.length:Nat):Int))<|BB q2<|ZZ) k!) (Grow.refl aF) k!
 | dx+1,i0,eZ,x,hh,aF,aA,br=>by
  have gN:=bp.small
  have mw:=cC.small
  have tD:=aF _ _ br
  have gd:=(cC.has aA).len
  have q2:(decide (((i0:Nat):Int)<((j.af.length:Nat):Int)))=true:=d!
  obtain ⟨p4,q5,oH⟩:=(cC.has aA).elem (i:=i0) o!
  have qm:=(cC.has aA).part (t:=9) (j:=0) o! oH k! rfl
  have k7:=Sm (d:=d+1) (j.af.g i0).name ((cC.has aA).ok (i:=i0) o!).1 aF
  have gK:=fun {al ps} (k:Pk al _ ps)=>(CN 2<|MM (aP 23 1 j.ar br k!)<|VV gd<|VV (bE 3 false false .i64 ((i0:Nat):Int) ((j.af.length:Nat):Int))<|BC q2<|MM (aP 23 1 j.ar br k!)<|CC<|VV oH<|CC<|MM qm<|EE k7<|CC<|k:Pk _ [] ps)
  rcases bu (!(gk (j.af.g i0).name)) with f1 | f1
  · exact aC.ret 5 (by simp only[gU,f1,ao,ai]) (pk (d+2) _ _ hh _ hh (gK<|BC f1<|ZZ) k!) (Grow.refl aF) k!
  · have adu:=DX (d:=d) (h:=hh) i0 j bj (bp.has aA) (cC.has aA) (aK.mono aA fI) o! i0 0 o! (dr ((x 0)::(Pt bj)::(x 2)::(Zn i0)::(Zi 0)::rx x 5 8 ((Zn i0)::(AV.ptr bj 1)::j.ar::(Zn j.af.length)::(AV.bool (decide (((i0:Nat):Int)<((j.af.length:Nat):Int))))::(x 18)::(x 19)::(AV.ptr bj 1)::j.ar::(Zn i0)::(AV.ptr p4 q5)::(AV.ptr p4 (q5+0))::(AV.str (j.af.g i0).name)::(AV.bool (gk (j.af.g i0).name))::(AV.bool (!(gk (j.af.g i0).name)))::rx x 28 81 []))) hh aF (Has.refl _) br
    cases mD:jE i0 j i0 0 with
    | none=>
     obtain ⟨yl9,vQ,rG,gB⟩:=aC.n mD adu
     have ji:=gB.y
     have M9:hh.nx≤vQ.nx:=gB.n
     have gZ:=gB.a
     obtain ⟨p12,q13,sa⟩:=(cC.has aA).elem (i:=i0) o!
     have rE:=((cC.has aA).has gZ).load o! sa
     have k15:=DV (d:=d) (j.af.g i0) (aK.mono gZ ((cC.has aA).ok (i:=i0) o!)) ji
     have n9:=fun {al ps} (k:Pk al _ ps)=>(gK<|BC f1<|LL rG<|CC<|MM (aP 23 1 j.ar (gB.a _ _ br) k!)<|CC<|VV sa<|MM rE<|EE k15<|CN 2<|VV (kt 31 false true .i64 (b9 (j.af.g i0)) 0)<|k:Pk _ [] ps)
     rcases bu (!decide ((b9 (j.af.g i0))=0)) with f3 | f3
     · have tF:=Eu f3
       exact aC.ret (b9 (j.af.g i0)) (by simp only[gU,f1,mD,f3,ao,ai]) (pk (d+2) _ _ hh _ vQ (n9<|BB f3<|CN 2<|ZZ) k!) (⟨ji,gZ,by omega⟩) k!
     · have tF:=Ew f3
       have u17:=eA 3 false true i0 1 o!
       exact aC.round (by simp only[gU,f1,mD,f3,ao,ai]) (pk (d+2) _ _ hh _ vQ (n9<|BC f3<|VV u17<|CC<|ZZ) k!) (⟨ji,gZ,by omega⟩) _ k! (fun x=>DY j bj bp cC fI dx (i0+1) o! x vQ ji (aA.trans gZ) (gB.a _ _ br))
    | some rr9=>
     obtain ⟨yl9,vQ,rG,gB⟩:=aC.r mD adu
     have ji:=gB.y
     have M9:hh.nx≤vQ.nx:=gB.n
     have gZ:=gB.a
     exact aC.ret rr9 (by simp only[gU,f1,mD,ao,ai]) (pk (d+2) _ _ hh _ vQ (gK<|BC f1<|LL rG<|ZZ) k!) (⟨ji,gZ,by omega⟩) k!
def jF (i2:Nat) (j:bP):Nat→Nat→Option (Int)
 | 0,_=>none
 | DF+1,i3=>(bif (decide ((j.ab.g i3).name=((j.ab.g i2).name))) then some 6 else jF i2 j DF (i3+1))
theorem DZ {d:Nat} {h:az} (i2:Nat) (j:bP) (nU:Nat) (lP:aO h j.au j.ab) (vu:aO h j.ar j.af) (BR:aK.ok h j) (Sp:i2<j.ab.length):∀(k_ i_:Nat) (_:i_+k_=i2) (x:Nat→AV) (hh:az) (aF:Tidy hh) (aA:Has h hh) (mh:hh.get nU=some (aN.cells [j.au,j.ar] 25 false)),aC (cA (d+2)) Su ⟨((x 0)::(Pt nU)::rx x 2 4 ((Zn i2)::(Zn i_)::rx x 8 101 [])),hh,[],.no⟩ (.exit 6) hh (fun y=>((y 0)::(Pt nU)::rx y 2 4 ((Zn i2)::rx y 7 102 []))) (fun r y=>((y 0)::(Pt nU)::(Zi r)::rx y 3 3 ((Zn i2)::rx y 7 102 []))) (jF i2 j k_ i_)
 | 0,i3,eZ,x,hh,aF,aA,mh=>by
  have q1:(decide (((i3:Nat):Int)<((i2:Nat):Int)))=false:=d!
  exact aC.out rfl (pk (d+2) _ _ hh _ hh (CN 2<|VV (bE 3 false false .i64 ((i3:Nat):Int) ((i2:Nat):Int))<|BB q1<|ZZ) k!) (Grow.refl aF) k!
 | DF+1,i3,eZ,x,hh,aF,aA,mh=>by
  have J1:=lP.small
  have OZ:=vu.small
  have agI:=aF _ _ mh
  have q1:(decide (((i3:Nat):Int)<((i2:Nat):Int)))=true:=d!
  obtain ⟨p3,q4,gh⟩:=(lP.has aA).elem (i:=i3) o!
  have kN:=(lP.has aA).part (t:=9) (j:=0) o! gh k! rfl
  obtain ⟨p7,q8,MH⟩:=(lP.has aA).elem (i:=i2) o!
  have O9:=(lP.has aA).part (t:=9) (j:=0) o! MH k! rfl
  have c10:=(lP.has aA).same 19
  have s5:=fun {al ps} (k:Pk al _ ps)=>(CN 2<|VV (bE 3 false false .i64 ((i3:Nat):Int) ((i2:Nat):Int))<|BC q1<|MM (aP 22 0 j.au mh k!)<|CC<|VV gh<|CC<|MM kN<|CC<|MM (aP 22 0 j.au mh k!)<|CC<|VV MH<|CC<|MM O9<|VV (YK 9 false false (j.ab.g i3).name (j.ab.g i2).name)<|HH (aP 22 0 j.au mh k!)<|HH c10<|HH kN<|HH (show AV.same 20 (AV.str (j.ab.g i3).name) (AV.str (j.ab.g i3).name)=true from j8 19 _)<|HH (aP 22 0 j.au mh k!)<|HH c10<|HH O9<|HH (show AV.same 20 (AV.str (j.ab.g i2).name) (AV.str (j.ab.g i2).name)=true from j8 19 _)<|k:Pk _ [] ps)
  rcases bu (decide ((j.ab.g i3).name=((j.ab.g i2).name))) with f1 | f1
  · have eB:=jv f1
    exact aC.ret 6 (by simp only[jF,f1,ao,ai]) (pk (d+2) _ _ hh _ hh (s5<|BC f1<|ZZ) k!) (Grow.refl aF) k!
  · have eB:=pK f1
    have u12:=eA 3 false true i3 1 o!
    exact aC.round (by simp only[jF,f1,ao,ai]) (pk (d+2) _ _ hh _ hh (s5<|BC f1<|VV u12<|CC<|ZZ) k!) (Grow.refl aF) _ k! (fun x=>DZ i2 j nU lP vu BR Sp DF (i3+1) o! x hh aF aA mh)
def fW (j:bP):Nat→Nat→Option (Int)
 | 0,_=>none
 | DD+1,i2=>(bif (!(gk (j.ab.g i2).name)) then some 5 else (match (jF i2 j i2 0) with | none=>(bif (!decide ((dE j (j.ab.g i2))=0)) then some (dE j (j.ab.g i2)) else fW j DD (i2+1)) | some rr9=>some rr9))
theorem D0 {d:Nat} {h:az} (j:bP) (jD:Nat) (ky:aO h j.au j.ab) (lp:aO h j.ar j.af) (uM:aK.ok h j):∀(k_ i_:Nat) (_:i_+k_=j.ab.length) (x:Nat→AV) (hh:az) (aF:Tidy hh) (aA:Has h hh) (iO:hh.get jD=some (aN.cells [j.au,j.ar] 25 false)),aC (cA (d+2)) Ss ⟨((x 0)::(Pt jD)::rx x 2 4 ((Zn i_)::rx x 7 102 [])),hh,[],.no⟩ (.exit 4) hh (fun y=>((y 0)::(Pt jD)::rx y 2 107 [])) (fun r y=>((y 0)::(Pt jD)::(Zi r)::rx y 3 106 [])) (fW j k_ i_)
 | 0,i2,eZ,x,hh,aF,aA,iO=>by
  have gd:=(ky.has aA).len
  have q2:(decide (((i2:Nat):Int)<((j.ab.length:Nat):Int)))=false:=d!
  exact aC.out rfl (pk (d+2) _ _ hh _ hh (CN 2<|MM (aP 22 0 j.au iO k!)<|VV gd<|VV (bE 3 false false .i64 ((i2:Nat):Int) ((j.ab.length:Nat):Int))<|BB q2<|ZZ) k!) (Grow.refl aF) k!
 | DD+1,i2,eZ,x,hh,aF,aA,iO=>by
  have Ft:=ky.small
  have J0:=lp.small
  have acO:=aF _ _ iO
  have gd:=(ky.has aA).len
  have q2:(decide (((i2:Nat):Int)<((j.ab.length:Nat):Int)))=true:=d!
  obtain ⟨p4,q5,oH⟩:=(ky.has aA).elem (i:=i2) o!
  have qm:=(ky.has aA).part (t:=9) (j:=0) o! oH k! rfl
  have k7:=Sm (d:=d+1) (j.ab.g i2).name ((ky.has aA).ok (i:=i2) o!).1 aF
  have vR:=fun {al ps} (k:Pk al _ ps)=>(CN 2<|MM (aP 22 0 j.au iO k!)<|VV gd<|VV (bE 3 false false .i64 ((i2:Nat):Int) ((j.ab.length:Nat):Int))<|BC q2<|MM (aP 22 0 j.au iO k!)<|CC<|VV oH<|CC<|MM qm<|EE k7<|CC<|k:Pk _ [] ps)
  rcases bu (!(gk (j.ab.g i2).name)) with f1 | f1
  · exact aC.ret 5 (by simp only[fW,f1,ao,ai]) (pk (d+2) _ _ hh _ hh (vR<|BC f1<|ZZ) k!) (Grow.refl aF) k!
  · have Sn:=DZ (d:=d) (h:=hh) i2 j jD (ky.has aA) (lp.has aA) (aK.mono aA uM) o! i2 0 o! (dr ((x 0)::(Pt jD)::rx x 2 4 ((Zn i2)::(Zi 0)::rx x 8 51 ((Zn i2)::(Pt jD)::j.au::(Zn j.ab.length)::(AV.bool (decide (((i2:Nat):Int)<((j.ab.length:Nat):Int))))::(x 64)::(x 65)::(Pt jD)::j.au::(Zn i2)::(AV.ptr p4 q5)::(AV.ptr p4 (q5+0))::(AV.str (j.ab.g i2).name)::(AV.bool (gk (j.ab.g i2).name))::(AV.bool (!(gk (j.ab.g i2).name)))::rx x 74 35 [])))) hh aF (Has.refl _) iO
    cases mD:jF i2 j i2 0 with
    | none=>
     obtain ⟨yl9,vQ,rG,gB⟩:=aC.n mD Sn
     have ji:=gB.y
     have M9:hh.nx≤vQ.nx:=gB.n
     have gZ:=gB.a
     obtain ⟨p12,q13,sa⟩:=(ky.has aA).elem (i:=i2) o!
     have rE:=((ky.has aA).has gZ).load o! sa
     have k15:=LU (d:=d) j (j.ab.g i2) (aK.mono gZ (aK.mono aA uM)) (aK.mono gZ ((ky.has aA).ok (i:=i2) o!)) ji
     have c16:=dK 18 (kK (ky.has aA).same (kK (lp.has aA).same CK))
     have c17:=(ky.has aA).same 19
     have c18:AV.same 20 (AV.agg [(AV.str (j.ab.g i2).name),(Zi (j.ab.g i2).takes),(j.ab.g i2).bh,(j.ab.g i2).bo]) (AV.agg [(AV.str (j.ab.g i2).name),(Zi (j.ab.g i2).takes),(j.ab.g i2).bh,(j.ab.g i2).bo])=true:=dK 18 (kK (fun n=>j8 n _) (kK (fun n=>aS n _ _) (kK ((ky.has aA).ok (i:=i2) o!).2.1.same (kK ((ky.has aA).ok (i:=i2) o!).2.2.same CK))))
     have Fw:=fun {al ps} (k:Pk al _ ps)=>(vR<|BC f1<|LL rG<|MM (aP 25 0 (AV.agg [j.au,j.ar]) (gB.a _ _ iO) k!)<|CC<|MM (aP 22 0 j.au (gB.a _ _ iO) k!)<|CC<|VV sa<|MM rE<|EE k15<|CC<|HH (aP 25 0 (AV.agg [j.au,j.ar]) (gB.a _ _ iO) k!)<|HH c16<|HH (aP 22 0 j.au (gB.a _ _ iO) k!)<|HH c17<|HH rE<|HH c18<|CC<|VV (kt 31 false true .i64 (dE j (j.ab.g i2)) 0)<|k:Pk _ [] ps)
     rcases bu (!decide ((dE j (j.ab.g i2))=0)) with f3 | f3
     · have tF:=Eu f3
       exact aC.ret (dE j (j.ab.g i2)) (by simp only[fW,f1,mD,f3,ao,ai]) (pk (d+2) _ _ hh _ vQ (Fw<|BB f3<|CN 2<|ZZ) k!) (⟨ji,gZ,by omega⟩) k!
     · have tF:=Ew f3
       have u20:=eA 3 false true i2 1 o!
       exact aC.round (by simp only[fW,f1,mD,f3,ao,ai]) (pk (d+2) _ _ hh _ vQ (Fw<|BC f3<|VV u20<|CC<|ZZ) k!) (⟨ji,gZ,by omega⟩) _ k! (fun x=>D0 j jD ky lp uM DD (i2+1) o! x vQ ji (aA.trans gZ) (gB.a _ _ iO))
    | some rr9=>
     obtain ⟨yl9,vQ,rG,gB⟩:=aC.r mD Sn
     have ji:=gB.y
     have M9:hh.nx≤vQ.nx:=gB.n
     have gZ:=gB.a
     exact aC.ret rr9 (by simp only[fW,f1,mD,ao,ai]) (pk (d+2) _ _ hh _ vQ (vR<|BC f1<|LL rG<|ZZ) k!) (⟨ji,gZ,by omega⟩) k!
theorem AQ {i2:Nat} {j:bP}:∀{k i:Nat} {r:Int},jF i2 j k i=some r→r≠0
 | 0,i,r,h=>by cases h
 | k+1,i,r,h=>by
  rw[jF] at h
  cases q:decide ((j.ab.g i).name=(j.ab.g i2).name) with
  | true=>rw[q] at h;cases h;decide
  | false=>rw[q] at h;exact AQ (k:=k) h
theorem qq {j:bP}:∀{k i:Nat},(fW j k i=none→∀t,i≤t→t<i+k→dE j (j.ab.g t)=0)∧(∀r,fW j k i=some r→r≠0)
 | 0,i=>⟨fun _ q h1 h2=>by omega,fun r h=>by cases h⟩
 | k+1,i=>by
  have ih:=qq (j:=j) (k:=k) (i:=i+1)
  rw[fW]
  cases a:gk (j.ab.g i).name with
  | false=>exact ⟨(fun h=>by cases h),(fun r h=>by cases h;decide)⟩
  | true=>
   cases b:jF i j i 0 with
   | some r0=>exact ⟨(fun h=>by cases h),(fun r h=>by cases h;exact AQ b)⟩
   | none=>
    by_cases c:dE j (j.ab.g i)=0
    · rw[eV c]
      refine ⟨fun h q h1 h2=>?_,ih.2⟩
      by_cases e:q=i
      · rw[e];exact c
      · exact ih.1 h q o! o!
    · rw[fL c]
      exact ⟨(fun h=>by cases h),(fun r h=>by cases h;exact c)⟩
theorem Kg {j:bP} (h:fW j j.ab.length 0=none):∀i,i<j.ab.length→∀q,q<(j.ab.g i).aD.length→0≤(j.ab.g i).aD.g q∧(j.ab.g i).aD.g q<(j.ab.length:Int):=fun i hi=>(zi (qq.1 h i o! o!)).2.1
def eX (j:bP):Int:=(bif (decide (16<((j.af.length:Nat):Int))) then 3 else (match (gU j j.af.length 0) with | none=>(bif (decide (64<((j.ab.length:Nat):Int))) then 3 else (match (fW j j.ab.length 0) with | none=>(bif (!decide ((((iu j).length:Nat):Int)=((j.ab.length:Nat):Int))) then 11 else 0) | some rr8=>rr8)) | some Bz=>Bz))
theorem ZE {d:Nat} {h:az} (j:bP) (b7:aK.ok h j) (bM:Tidy h):cA (d+3) (.fn 26) [(AV.agg [j.au,j.ar])] h= .ret (Zi (eX j)) h:=by
 have l7:=b7.1.small
 have l8:=b7.2.small
 obtain ⟨h1,dw,de,jW,bx,ca⟩:=gQ bM (aN.cells [j.au,j.ar] 25 false)
 have bD:=ca
 have JH:=b7.2.len
 have Ex:=fun {al ps} (k:Pk al _ ps)=>(NN dw (fun i=>(Pt i))<|CN 2<|MM (aP 23 1 j.ar bx k!)<|VV JH<|VV (gz 3 false true .i64 ((j.af.length:Nat):Int) 16)<|k:Pk _ [] ps)
 rcases bu (decide (16<((j.af.length:Nat):Int))) with f0 | f0
 · have ja:=jv f0
   have e:eX j=3:=by simp only[eX,f0,ao,ai]
   rw[e]
   exact aG rfl (aY Tryz.func26 sy rfl (.inr rfl) (pk (d+2) _ _ h _ h1 (Ex<|BC f0<|ZZ) k!) k!) bD rfl
 · have ja:=pK f0
   have Kc:=DY (d:=d) (h:=h) j h.nx b7.1 b7.2 b7 j.af.length 0 o! (dr ((AV.agg [j.au,j.ar])::(Pt h.nx)::(Zi 0)::(Zi 0)::aL::aL::aL::aL::aL::(AV.ptr h.nx 1)::j.ar::(Zn j.af.length)::(AV.bool (decide (16<((j.af.length:Nat):Int))))::iW 96)) h1 de bD bx
   cases dX:gU j j.af.length 0 with
   | none=>
    obtain ⟨Dl,h5,ep,jf⟩:=aC.n dX Kc
    have mP:=jf.y
    have agh:h1.nx≤h5.nx:=jf.n
    have fO:=bD.trans jf.a
    have ln6:=b7.1.len
    have Hp:=fun {al ps} (k:Pk al _ ps)=>(Ex<|BC f0<|LL ep<|CC<|MM (aP 22 0 j.au (jf.a _ _ bx) k!)<|VV ln6<|VV (gz 3 false true .i64 ((j.ab.length:Nat):Int) 64)<|k:Pk _ [] ps)
    rcases bu (decide (64<((j.ab.length:Nat):Int))) with f2 | f2
    · have pX:=jv f2
      have e:eX j=3:=by simp only[eX,f0,dX,f2,ao,ai]
      rw[e]
      exact aG rfl (aY Tryz.func26 sy rfl (.inr rfl) (pk (d+2) _ _ h _ h5 (Hp<|BC f2<|ZZ) k!) k!) fO rfl
    · have pX:=pK f2
      have Kd:=D0 (d:=d) (h:=h) j h.nx b7.1 b7.2 b7 j.ab.length 0 o! (dr ((Dl 0)::(Pt h.nx)::rx Dl 2 4 ((Zi 0)::rx Dl 7 48 ((Pt h.nx)::j.au::(Zn j.ab.length)::(AV.bool (decide (64<((j.ab.length:Nat):Int))))::rx Dl 59 50 [])))) h5 mP fO (jf.a _ _ bx)
      cases ox:fW j j.ab.length 0 with
      | none=>
       obtain ⟨E0,h9,ot,vy⟩:=aC.n ox Kd
       have uw:=vy.y
       have T9:h5.nx≤h9.nx:=vy.n
       have nz:=fO.trans vy.a
       have OP:=vy.a
       have uN:=b7.1.len
       obtain ⟨z11,rk,Xw,km,agS,auk⟩:=UL (d:=d) j (aK.mono nz b7) (by first | omega | assumption | exact Kg a!) (by first | omega | assumption | exact Kg a!) uw
       have gG:=nz.trans km.a
       have Uo:=agS.len
       have c15:=dK 18 (kK b7.1.same (kK b7.2.same CK))
       have c16:=b7.1.same 19
       have LP:=fun {al ps} (k:Pk al _ ps)=>(Hp<|BC f2<|LL ot<|MM (aP 25 0 (AV.agg [j.au,j.ar]) (vy.a _ _ (jf.a _ _ bx)) k!)<|CC<|MM (aP 22 0 j.au (vy.a _ _ (jf.a _ _ bx)) k!)<|VV uN<|EE Xw<|VV Uo<|VV (kt 3 false false .i64 (((iu j).length:Nat):Int) ((j.ab.length:Nat):Int))<|HH (aP 25 0 (AV.agg [j.au,j.ar]) (vy.a _ _ (jf.a _ _ bx)) k!)<|HH c15<|HH (aP 22 0 j.au (vy.a _ _ (jf.a _ _ bx)) k!)<|HH c16<|HH (aP 22 0 j.au (km.a _ _ (vy.a _ _ (jf.a _ _ bx))) k!)<|HH c16<|k:Pk _ [] ps)
       rcases bu (!decide ((((iu j).length:Nat):Int)=((j.ab.length:Nat):Int))) with f4 | f4
       · have e:eX j=11:=by simp only[eX,f0,dX,f2,ox,f4,ao,ai]
         rw[e]
         exact aG rfl (aY Tryz.func26 sy rfl (.inr rfl) (pk (d+2) _ _ h _ rk (LP<|BC f4<|ZZ) k!) k!) gG rfl
       · have e:eX j=0:=by simp only[eX,f0,dX,f2,ox,f4,ao,ai]
         rw[e]
         exact aG rfl (aY Tryz.func26 sy rfl (.inr rfl) (pk (d+2) _ _ h _ rk (LP<|BC f4<|ZZ) k!) k!) gG rfl
      | some rr8=>
       obtain ⟨E0,h9,ot,vy⟩:=aC.r ox Kd
       have uw:=vy.y
       have nz:=fO.trans vy.a
       have OP:=vy.a
       have e:eX j=rr8:=by simp only[eX,f0,dX,f2,ox,ao,ai]
       rw[e]
       exact aG rfl (aY Tryz.func26 sy rfl (.inr rfl) (pk (d+2) _ _ h _ h9 (Hp<|BC f2<|LL ot<|ZZ) k!) k!) nz rfl
   | some Bz=>
    obtain ⟨Dl,h5,ep,jf⟩:=aC.r dX Kc
    have mP:=jf.y
    have fO:=bD.trans jf.a
    have e:eX j=Bz:=by simp only[eX,f0,dX,ao,ai]
    rw[e]
    exact aG rfl (aY Tryz.func26 sy rfl (.inr rfl) (pk (d+2) _ _ h _ h5 (Ex<|BC f0<|LL ep<|ZZ) k!) k!) fO rfl
end
end Go.Proofs.aM
