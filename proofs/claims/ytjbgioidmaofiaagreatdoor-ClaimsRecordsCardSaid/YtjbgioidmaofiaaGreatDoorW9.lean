import Derived.Test.YtjbgioidmaofiaaGreatDoorW0
import Derived.Test.YtjbgioidmaofiaaGreatDoorW7
import Derived.Test.YtjbgioidmaofiaaGreatDoorW5
import Derived.Test.YtjbgioidmaofiaaGreatDoorW4
import Derived.Test.YtjbgioidmaofiaaGreatDoorW8
import Derived.Test.YtjbgioidmaofiaaGreatDoorW6
import Derived.Test.YtjbgioidmaofiaaGreatDoorA7
namespace Go.Proofs.aA
open Go.Proofs Ab
noncomputable section
set_option maxRecDepth 100000
set_option maxHeartbeats 4000000
set_option linter.unusedVariables false
set_option linter.unusedSimpArgs false
def GK:Code:=(Tryz.f3.body).getD .skip
theorem fF:Tryz.f3.body=some GK:=by kernel_rfl
def dE (l_:List Fact) (o:List Fact) (s:List Int):Bool:=(bif (cL l_) then true else (bif (cL o) then true else (bif (decide (700<((s.length:Nat):Int))) then true else (bif (!decide ((af l_)=(ao l_))) then false else (bif (!decide ((aS l_).1=((aU l_).1))) then false else (bif (!decide ((aS l_).2=((aU l_).2))) then false else (bif (!decide ((bZ l_).2=((b5 l_).2))) then false else (bif (!(dI (bZ l_).1 (b5 l_).1)) then false else (bif (!decide ((bq l_ s).1=((br l_ s).1))) then false else (bif (!decide ((bq l_ s).2=((br l_ s).2))) then false else (bif (decide ((bz l_ o).2.2.2=((bA l_ o).2.2.2))) then (bif (bn (bz l_ o).1 (bA l_ o).1) then (bif (bn (bz l_ o).2.1 (bA l_ o).2.1) then (bif (bn (bz l_ o).2.2.1 (bA l_ o).2.2.1) then true else false) else false) else false) else false)))))))))))
theorem QH {d:Nat} {h:ag} {bw oV sV:AV} (l_:List Fact) (o:List Fact) (s:List Int) (cc:ax h bw l_) (Ul:ax h oV o) (RQ:ef h .u64 73 sV s) (hG:h.get 0=some (aw.cells (aJ .u64 fL) 230 true)) (bK:Tidy h):cC (d+25) (.fn 3) [bw,oV,sV] h= .ret (AV.bool (dE l_ o s)) h:=by
 have jN:=cc.small
 have XR:=Ul.small
 have abW:=RQ.small
 have k1:=Ek (d:=d+23) l_ cc bK
 rcases Bool.eq_false_or_eq_true (cL l_) with f0 | f0
 · have k3:=Bq (d:=d+23) hG
   have e:dE l_ o s=true:=by simp only[dE,f0,ah,ae]
   rw[e]
   exact ar rfl (aE Tryz.func3 fF rfl (.inr rfl) (pk (d+24) _ _ h _ h (CN 2<|EE k1<|CC<|BB f0<|BV f0 (uE true f0)<|CC<|TT<|TT<|TT<|CC<|TT<|EE k3<|CC<|ZZ) k!) k!) (Has.refl _) rfl
 · have k3:=Ek (d:=d+23) o Ul bK
   rcases Bool.eq_false_or_eq_true (cL o) with f1 | f1
   · have k5:=Bq (d:=d+23) hG
     have e:dE l_ o s=true:=by simp only[dE,f0,f1,ah,ae]
     rw[e]
     exact ar rfl (aE Tryz.func3 fF rfl (.inr rfl) (pk (d+24) _ _ h _ h (CN 2<|EE k1<|CC<|BC f0<|BB f0<|EE k3<|VV (az (a:=some (AV.bool true)) (b:=some (AV.bool (cL o))) f0)<|CC<|BB f1<|BB f1<|BV f1 (uE true f1)<|TT<|EE k5<|CC<|ZZ) k!) k!) (Has.refl _) rfl
   · have B_:cV (some (.slice 73)) (some sV)=some (Zn s.length):=RQ.len
     rcases Bool.eq_false_or_eq_true (decide (700<((s.length:Nat):Int))) with f2 | f2
     · have Bz:=of_decide_eq_true f2
       have k7:=Bq (d:=d+23) hG
       have e:dE l_ o s=true:=by simp only[dE,f0,f1,f2,ah,ae]
       rw[e]
       exact ar rfl (aE Tryz.func3 fF rfl (.inr rfl) (pk (d+24) _ _ h _ h (CN 2<|EE k1<|CC<|BC f0<|BB f0<|EE k3<|VV (az (a:=some (AV.bool true)) (b:=some (AV.bool (cL o))) f0)<|CC<|BC f1<|BV f1 B_<|BV f1 (cb 3 false true .i64 ((s.length:Nat):Int) 700)<|VV (az (a:=some (AV.bool true)) (b:=some (AV.bool (decide (700<((s.length:Nat):Int))))) f1)<|BB f2<|EE k7<|CC<|ZZ) k!) k!) (Has.refl _) rfl
     · have Bz:=of_decide_eq_false f2
       have k7:=Ji (d:=d+16) l_ cc hG bK
       have k8:=Jo (d:=d+1) l_ cc bK
       have k9:=ek (d:=d+20) l_ cc bK
       have yE:=ep (d:=d+22) l_ cc bK
       rcases Bool.eq_false_or_eq_true (!decide ((af l_)=(ao l_))) with f3 | f3
       · have BA:=uj f3
         have e:dE l_ o s=false:=by simp only[dE,f0,f1,f2,f3,ah,ae]
         rw[e]
         exact ar rfl (aE Tryz.func3 fF rfl (.inr rfl) (pk (d+24) _ _ h _ h (CN 2<|EE k1<|CC<|BC f0<|BB f0<|EE k3<|VV (az (a:=some (AV.bool true)) (b:=some (AV.bool (cL o))) f0)<|CC<|BC f1<|BV f1 B_<|BV f1 (cb 3 false true .i64 ((s.length:Nat):Int) 700)<|VV (az (a:=some (AV.bool true)) (b:=some (AV.bool (decide (700<((s.length:Nat):Int))))) f1)<|BC f2<|EE k7<|CN 6<|EE k8<|CN 6<|EE k9<|CC<|EE yE<|VV (bD 26 false false .i64 (af l_) (ao l_))<|CC<|BB f3<|BB f3<|BV f3 (uE true f3)<|CC<|TT<|TT<|TT<|CC<|TT<|CC<|ZZ) k!) k!) (Has.refl _) rfl
       · have BA:=uk f3
         rcases Bool.eq_false_or_eq_true (!decide ((aS l_).1=((aU l_).1))) with f4 | f4
         · have Gk:=uj f4
           have e:dE l_ o s=false:=by simp only[dE,f0,f1,f2,f3,f4,ah,ae]
           rw[e]
           exact ar rfl (aE Tryz.func3 fF rfl (.inr rfl) (pk (d+24) _ _ h _ h (CN 2<|EE k1<|CC<|BC f0<|BB f0<|EE k3<|VV (az (a:=some (AV.bool true)) (b:=some (AV.bool (cL o))) f0)<|CC<|BC f1<|BV f1 B_<|BV f1 (cb 3 false true .i64 ((s.length:Nat):Int) 700)<|VV (az (a:=some (AV.bool true)) (b:=some (AV.bool (decide (700<((s.length:Nat):Int))))) f1)<|BC f2<|EE k7<|CN 6<|EE k8<|CN 6<|EE k9<|CC<|EE yE<|VV (bD 26 false false .i64 (af l_) (ao l_))<|CC<|BC f3<|BC f3<|BV f3 (wv 9 false false (aS l_).1 (aU l_).1)<|VV (az (a:=some (AV.bool true)) (b:=some (AV.bool (!decide ((aS l_).1=((aU l_).1))))) f3)<|CC<|BB f4<|BB f4<|BV f4 (uE true f4)<|TT<|CC<|ZZ) k!) k!) (Has.refl _) rfl
         · have Gk:=uk f4
           rcases Bool.eq_false_or_eq_true (!decide ((aS l_).2=((aU l_).2))) with f5 | f5
           · have Ni:=uj f5
             have e:dE l_ o s=false:=by simp only[dE,f0,f1,f2,f3,f4,f5,ah,ae]
             rw[e]
             exact ar rfl (aE Tryz.func3 fF rfl (.inr rfl) (pk (d+24) _ _ h _ h (CN 2<|EE k1<|CC<|BC f0<|BB f0<|EE k3<|VV (az (a:=some (AV.bool true)) (b:=some (AV.bool (cL o))) f0)<|CC<|BC f1<|BV f1 B_<|BV f1 (cb 3 false true .i64 ((s.length:Nat):Int) 700)<|VV (az (a:=some (AV.bool true)) (b:=some (AV.bool (decide (700<((s.length:Nat):Int))))) f1)<|BC f2<|EE k7<|CN 6<|EE k8<|CN 6<|EE k9<|CC<|EE yE<|VV (bD 26 false false .i64 (af l_) (ao l_))<|CC<|BC f3<|BC f3<|BV f3 (wv 9 false false (aS l_).1 (aU l_).1)<|VV (az (a:=some (AV.bool true)) (b:=some (AV.bool (!decide ((aS l_).1=((aU l_).1))))) f3)<|CC<|BC f4<|BC f4<|BV f4 (bD 26 false false .i64 (aS l_).2 (aU l_).2)<|VV (az (a:=some (AV.bool true)) (b:=some (AV.bool (!decide ((aS l_).2=((aU l_).2))))) f4)<|BC f5<|ZZ) k!) k!) (Has.refl _) rfl
           · have Ni:=uk f5
             obtain ⟨z14,U8,sv,NT,XV,abX⟩:=Ja (d:=d+15) l_ cc hG bK
             have XW:=NT.y
             have abY:h.nx≤U8.nx:=NT.n
             have Sc:Has h U8:=NT.a
             have abh:=XV.small
             obtain ⟨Xy,B',ph,si,NJ,R5⟩:=Jd (d:=d) l_ (cc.has Sc) XW
             have zR:=si.y
             have Xz:U8.nx≤B'.nx:=si.n
             have lK:Has h B':=Sc.trans si.a
             have zX:Has U8 B':=si.a
             have Ub:=NJ.small
             rcases Bool.eq_false_or_eq_true (!decide ((bZ l_).2=((b5 l_).2))) with f6 | f6
             · have Nj:=uj f6
               have e:dE l_ o s=false:=by simp only[dE,f0,f1,f2,f3,f4,f5,f6,ah,ae]
               rw[e]
               exact ar rfl (aE Tryz.func3 fF rfl (.inr rfl) (pk (d+24) _ _ h _ B' (CN 2<|EE k1<|CC<|BC f0<|BB f0<|EE k3<|VV (az (a:=some (AV.bool true)) (b:=some (AV.bool (cL o))) f0)<|CC<|BC f1<|BV f1 B_<|BV f1 (cb 3 false true .i64 ((s.length:Nat):Int) 700)<|VV (az (a:=some (AV.bool true)) (b:=some (AV.bool (decide (700<((s.length:Nat):Int))))) f1)<|BC f2<|EE k7<|CN 6<|EE k8<|CN 6<|EE k9<|CC<|EE yE<|VV (bD 26 false false .i64 (af l_) (ao l_))<|CC<|BC f3<|BC f3<|BV f3 (wv 9 false false (aS l_).1 (aU l_).1)<|VV (az (a:=some (AV.bool true)) (b:=some (AV.bool (!decide ((aS l_).1=((aU l_).1))))) f3)<|CC<|BC f4<|BC f4<|BV f4 (bD 26 false false .i64 (aS l_).2 (aU l_).2)<|VV (az (a:=some (AV.bool true)) (b:=some (AV.bool (!decide ((aS l_).2=((aU l_).2))))) f4)<|BC f5<|EE sv<|CN 6<|EE ph<|CN 7<|VV (bD 26 false false .i64 (bZ l_).2 (b5 l_).2)<|CC<|BB f6<|BB f6<|BB f6<|BV f6 (uE true f6)<|TT<|CC<|ZZ) k!) k!) lK rfl
             · have Nj:=uk f6
               have Oc:=Jj (d:=d+23) (bZ l_).1 (b5 l_).1 (XV.has zX) NJ zR
               rcases Bool.eq_false_or_eq_true (!(dI (bZ l_).1 (b5 l_).1)) with f7 | f7
               · have e:dE l_ o s=false:=by simp only[dE,f0,f1,f2,f3,f4,f5,f6,f7,ah,ae]
                 rw[e]
                 exact ar rfl (aE Tryz.func3 fF rfl (.inr rfl) (pk (d+24) _ _ h _ B' (CN 2<|EE k1<|CC<|BC f0<|BB f0<|EE k3<|VV (az (a:=some (AV.bool true)) (b:=some (AV.bool (cL o))) f0)<|CC<|BC f1<|BV f1 B_<|BV f1 (cb 3 false true .i64 ((s.length:Nat):Int) 700)<|VV (az (a:=some (AV.bool true)) (b:=some (AV.bool (decide (700<((s.length:Nat):Int))))) f1)<|BC f2<|EE k7<|CN 6<|EE k8<|CN 6<|EE k9<|CC<|EE yE<|VV (bD 26 false false .i64 (af l_) (ao l_))<|CC<|BC f3<|BC f3<|BV f3 (wv 9 false false (aS l_).1 (aU l_).1)<|VV (az (a:=some (AV.bool true)) (b:=some (AV.bool (!decide ((aS l_).1=((aU l_).1))))) f3)<|CC<|BC f4<|BC f4<|BV f4 (bD 26 false false .i64 (aS l_).2 (aU l_).2)<|VV (az (a:=some (AV.bool true)) (b:=some (AV.bool (!decide ((aS l_).2=((aU l_).2))))) f4)<|BC f5<|EE sv<|CN 6<|EE ph<|CN 7<|VV (bD 26 false false .i64 (bZ l_).2 (b5 l_).2)<|CC<|BC f6<|BC f6<|BB f6<|EE Oc<|BC f6<|VV (az (a:=some (AV.bool true)) (b:=some (AV.bool (!(dI (bZ l_).1 (b5 l_).1)))) f6)<|BC f7<|ZZ) k!) k!) lK rfl
               · have P1:=Gq (d:=d+15) l_ s (cc.has lK) (RQ.has lK) (lK _ _ hG) zR
                 have P2:=Gs (d:=d) l_ s (cc.has lK) (RQ.has lK) zR
                 rcases Bool.eq_false_or_eq_true (!decide ((bq l_ s).1=((br l_ s).1))) with f8 | f8
                 · have abi:=uj f8
                   have e:dE l_ o s=false:=by simp only[dE,f0,f1,f2,f3,f4,f5,f6,f7,f8,ah,ae]
                   rw[e]
                   exact ar rfl (aE Tryz.func3 fF rfl (.inr rfl) (pk (d+24) _ _ h _ B' (CN 2<|EE k1<|CC<|BC f0<|BB f0<|EE k3<|VV (az (a:=some (AV.bool true)) (b:=some (AV.bool (cL o))) f0)<|CC<|BC f1<|BV f1 B_<|BV f1 (cb 3 false true .i64 ((s.length:Nat):Int) 700)<|VV (az (a:=some (AV.bool true)) (b:=some (AV.bool (decide (700<((s.length:Nat):Int))))) f1)<|BC f2<|EE k7<|CN 6<|EE k8<|CN 6<|EE k9<|CC<|EE yE<|VV (bD 26 false false .i64 (af l_) (ao l_))<|CC<|BC f3<|BC f3<|BV f3 (wv 9 false false (aS l_).1 (aU l_).1)<|VV (az (a:=some (AV.bool true)) (b:=some (AV.bool (!decide ((aS l_).1=((aU l_).1))))) f3)<|CC<|BC f4<|BC f4<|BV f4 (bD 26 false false .i64 (aS l_).2 (aU l_).2)<|VV (az (a:=some (AV.bool true)) (b:=some (AV.bool (!decide ((aS l_).2=((aU l_).2))))) f4)<|BC f5<|EE sv<|CN 6<|EE ph<|CN 7<|VV (bD 26 false false .i64 (bZ l_).2 (b5 l_).2)<|CC<|BC f6<|BC f6<|BB f6<|EE Oc<|BC f6<|VV (az (a:=some (AV.bool true)) (b:=some (AV.bool (!(dI (bZ l_).1 (b5 l_).1)))) f6)<|BB f7<|CN 2<|EE P1<|CN 7<|EE P2<|CN 7<|VV (bD 3 false false .i64 (bq l_ s).1 (br l_ s).1)<|CC<|BB f8<|BB f8<|BV f8 (uE true f8)<|TT<|CC<|ZZ) k!) k!) lK rfl
                 · have abi:=uk f8
                   rcases Bool.eq_false_or_eq_true (!decide ((bq l_ s).2=((br l_ s).2))) with f9 | f9
                   · have abj:=uj f9
                     have e:dE l_ o s=false:=by simp only[dE,f0,f1,f2,f3,f4,f5,f6,f7,f8,f9,ah,ae]
                     rw[e]
                     exact ar rfl (aE Tryz.func3 fF rfl (.inr rfl) (pk (d+24) _ _ h _ B' (CN 2<|EE k1<|CC<|BC f0<|BB f0<|EE k3<|VV (az (a:=some (AV.bool true)) (b:=some (AV.bool (cL o))) f0)<|CC<|BC f1<|BV f1 B_<|BV f1 (cb 3 false true .i64 ((s.length:Nat):Int) 700)<|VV (az (a:=some (AV.bool true)) (b:=some (AV.bool (decide (700<((s.length:Nat):Int))))) f1)<|BC f2<|EE k7<|CN 6<|EE k8<|CN 6<|EE k9<|CC<|EE yE<|VV (bD 26 false false .i64 (af l_) (ao l_))<|CC<|BC f3<|BC f3<|BV f3 (wv 9 false false (aS l_).1 (aU l_).1)<|VV (az (a:=some (AV.bool true)) (b:=some (AV.bool (!decide ((aS l_).1=((aU l_).1))))) f3)<|CC<|BC f4<|BC f4<|BV f4 (bD 26 false false .i64 (aS l_).2 (aU l_).2)<|VV (az (a:=some (AV.bool true)) (b:=some (AV.bool (!decide ((aS l_).2=((aU l_).2))))) f4)<|BC f5<|EE sv<|CN 6<|EE ph<|CN 7<|VV (bD 26 false false .i64 (bZ l_).2 (b5 l_).2)<|CC<|BC f6<|BC f6<|BB f6<|EE Oc<|BC f6<|VV (az (a:=some (AV.bool true)) (b:=some (AV.bool (!(dI (bZ l_).1 (b5 l_).1)))) f6)<|BB f7<|CN 2<|EE P1<|CN 7<|EE P2<|CN 7<|VV (bD 3 false false .i64 (bq l_ s).1 (br l_ s).1)<|CC<|BC f8<|BC f8<|BV f8 (bD 26 false false .i64 (bq l_ s).2 (br l_ s).2)<|VV (az (a:=some (AV.bool true)) (b:=some (AV.bool (!decide ((bq l_ s).2=((br l_ s).2))))) f8)<|BC f9<|ZZ) k!) k!) lK rfl
                   · have abj:=uk f9
                     obtain ⟨z27,z29,z31,U9,EA,EB,⟨XX,abZ⟩,⟨XY,ab0⟩,⟨XZ,ab1⟩⟩:=Jg (d:=d+19) l_ o (cc.has lK) (Ul.has lK) zR
                     have X0:=EB.y
                     have ab2:B'.nx≤U9.nx:=EB.n
                     have NU:Has h U9:=lK.trans EB.a
                     have Jp:Has U8 U9:=zX.trans EB.a
                     have Jq:Has B' U9:=EB.a
                     have abk:=XX.small
                     have abl:=XY.small
                     have abm:=XZ.small
                     obtain ⟨z34,z36,z38,sB,EC,zY,⟨X1,ab3⟩,⟨X2,ab4⟩,⟨X3,ab5⟩⟩:=Jn (d:=d+21) l_ o (cc.has NU) (Ul.has NU) X0
                     have xh:=zY.y
                     have ab6:U9.nx≤sB.nx:=zY.n
                     have qd:Has h sB:=NU.trans zY.a
                     have U_:Has U8 sB:=Jp.trans zY.a
                     have U':Has B' sB:=Jq.trans zY.a
                     have tF:Has U9 sB:=zY.a
                     have abn:=X1.small
                     have abo:=X2.small
                     have abp:=X3.small
                     rcases Bool.eq_false_or_eq_true (decide ((bz l_ o).2.2.2=((bA l_ o).2.2.2))) with f10 | f10
                     · have X4:=of_decide_eq_true f10
                       have Y2:=l8 (d:=d+23) (bz l_ o).1 (bA l_ o).1 (XX.has tF) X1 xh
                       rcases Bool.eq_false_or_eq_true (bn (bz l_ o).1 (bA l_ o).1) with f11 | f11
                       · have k44:=l8 (d:=d+23) (bz l_ o).2.1 (bA l_ o).2.1 (XY.has tF) X2 xh
                         rcases Bool.eq_false_or_eq_true (bn (bz l_ o).2.1 (bA l_ o).2.1) with f12 | f12
                         · have k46:=l8 (d:=d+23) (bz l_ o).2.2.1 (bA l_ o).2.2.1 (XZ.has tF) X3 xh
                           rcases Bool.eq_false_or_eq_true (bn (bz l_ o).2.2.1 (bA l_ o).2.2.1) with f13 | f13
                           · have k48:=Bq (d:=d+23) (qd _ _ hG)
                             have e:dE l_ o s=true:=by simp only[dE,f0,f1,f2,f3,f4,f5,f6,f7,f8,f9,f10,f11,f12,f13,ah,ae]
                             rw[e]
                             exact ar rfl (aE Tryz.func3 fF rfl (.inr rfl) (pk (d+24) _ _ h _ sB (CN 2<|EE k1<|CC<|BC f0<|BB f0<|EE k3<|VV (az (a:=some (AV.bool true)) (b:=some (AV.bool (cL o))) f0)<|CC<|BC f1<|BV f1 B_<|BV f1 (cb 3 false true .i64 ((s.length:Nat):Int) 700)<|VV (az (a:=some (AV.bool true)) (b:=some (AV.bool (decide (700<((s.length:Nat):Int))))) f1)<|BC f2<|EE k7<|CN 6<|EE k8<|CN 6<|EE k9<|CC<|EE yE<|VV (bD 26 false false .i64 (af l_) (ao l_))<|CC<|BC f3<|BC f3<|BV f3 (wv 9 false false (aS l_).1 (aU l_).1)<|VV (az (a:=some (AV.bool true)) (b:=some (AV.bool (!decide ((aS l_).1=((aU l_).1))))) f3)<|CC<|BC f4<|BC f4<|BV f4 (bD 26 false false .i64 (aS l_).2 (aU l_).2)<|VV (az (a:=some (AV.bool true)) (b:=some (AV.bool (!decide ((aS l_).2=((aU l_).2))))) f4)<|BC f5<|EE sv<|CN 6<|EE ph<|CN 7<|VV (bD 26 false false .i64 (bZ l_).2 (b5 l_).2)<|CC<|BC f6<|BC f6<|BB f6<|EE Oc<|BC f6<|VV (az (a:=some (AV.bool true)) (b:=some (AV.bool (!(dI (bZ l_).1 (b5 l_).1)))) f6)<|BB f7<|CN 2<|EE P1<|CN 7<|EE P2<|CN 7<|VV (bD 3 false false .i64 (bq l_ s).1 (br l_ s).1)<|CC<|BC f8<|BC f8<|BV f8 (bD 26 false false .i64 (bq l_ s).2 (br l_ s).2)<|VV (az (a:=some (AV.bool true)) (b:=some (AV.bool (!decide ((bq l_ s).2=((br l_ s).2))))) f8)<|BB f9<|CN 2<|EE EA<|CN 11<|EE EC<|CN 11<|VV (ly 26 false false .i64 (bz l_ o).2.2.2 (bA l_ o).2.2.2)<|CC<|BC f10<|BC f10<|BB f10<|EE Y2<|VV (nG (bn (bz l_ o).1 (bA l_ o).1) false f10)<|CC<|BC f11<|BC f11<|BB f11<|EE k44<|VV (nG (bn (bz l_ o).2.1 (bA l_ o).2.1) false f11)<|CC<|BC f12<|BC f12<|BB f12<|EE k46<|VV (nG (bn (bz l_ o).2.2.1 (bA l_ o).2.2.1) false f12)<|CC<|BB f13<|EE k48<|VV (nG true false f13)<|CC<|ZZ) k!) k!) qd rfl
                           · have e:dE l_ o s=false:=by simp only[dE,f0,f1,f2,f3,f4,f5,f6,f7,f8,f9,f10,f11,f12,f13,ah,ae]
                             rw[e]
                             exact ar rfl (aE Tryz.func3 fF rfl (.inr rfl) (pk (d+24) _ _ h _ sB (CN 2<|EE k1<|CC<|BC f0<|BB f0<|EE k3<|VV (az (a:=some (AV.bool true)) (b:=some (AV.bool (cL o))) f0)<|CC<|BC f1<|BV f1 B_<|BV f1 (cb 3 false true .i64 ((s.length:Nat):Int) 700)<|VV (az (a:=some (AV.bool true)) (b:=some (AV.bool (decide (700<((s.length:Nat):Int))))) f1)<|BC f2<|EE k7<|CN 6<|EE k8<|CN 6<|EE k9<|CC<|EE yE<|VV (bD 26 false false .i64 (af l_) (ao l_))<|CC<|BC f3<|BC f3<|BV f3 (wv 9 false false (aS l_).1 (aU l_).1)<|VV (az (a:=some (AV.bool true)) (b:=some (AV.bool (!decide ((aS l_).1=((aU l_).1))))) f3)<|CC<|BC f4<|BC f4<|BV f4 (bD 26 false false .i64 (aS l_).2 (aU l_).2)<|VV (az (a:=some (AV.bool true)) (b:=some (AV.bool (!decide ((aS l_).2=((aU l_).2))))) f4)<|BC f5<|EE sv<|CN 6<|EE ph<|CN 7<|VV (bD 26 false false .i64 (bZ l_).2 (b5 l_).2)<|CC<|BC f6<|BC f6<|BB f6<|EE Oc<|BC f6<|VV (az (a:=some (AV.bool true)) (b:=some (AV.bool (!(dI (bZ l_).1 (b5 l_).1)))) f6)<|BB f7<|CN 2<|EE P1<|CN 7<|EE P2<|CN 7<|VV (bD 3 false false .i64 (bq l_ s).1 (br l_ s).1)<|CC<|BC f8<|BC f8<|BV f8 (bD 26 false false .i64 (bq l_ s).2 (br l_ s).2)<|VV (az (a:=some (AV.bool true)) (b:=some (AV.bool (!decide ((bq l_ s).2=((br l_ s).2))))) f8)<|BB f9<|CN 2<|EE EA<|CN 11<|EE EC<|CN 11<|VV (ly 26 false false .i64 (bz l_ o).2.2.2 (bA l_ o).2.2.2)<|CC<|BC f10<|BC f10<|BB f10<|EE Y2<|VV (nG (bn (bz l_ o).1 (bA l_ o).1) false f10)<|CC<|BC f11<|BC f11<|BB f11<|EE k44<|VV (nG (bn (bz l_ o).2.1 (bA l_ o).2.1) false f11)<|CC<|BC f12<|BC f12<|BB f12<|EE k46<|VV (nG (bn (bz l_ o).2.2.1 (bA l_ o).2.2.1) false f12)<|CC<|BV f13 (Bf false f13)<|CC<|ZZ) k!) k!) qd rfl
                         · have e:dE l_ o s=false:=by simp only[dE,f0,f1,f2,f3,f4,f5,f6,f7,f8,f9,f10,f11,f12,ah,ae]
                           rw[e]
                           exact ar rfl (aE Tryz.func3 fF rfl (.inr rfl) (pk (d+24) _ _ h _ sB (CN 2<|EE k1<|CC<|BC f0<|BB f0<|EE k3<|VV (az (a:=some (AV.bool true)) (b:=some (AV.bool (cL o))) f0)<|CC<|BC f1<|BV f1 B_<|BV f1 (cb 3 false true .i64 ((s.length:Nat):Int) 700)<|VV (az (a:=some (AV.bool true)) (b:=some (AV.bool (decide (700<((s.length:Nat):Int))))) f1)<|BC f2<|EE k7<|CN 6<|EE k8<|CN 6<|EE k9<|CC<|EE yE<|VV (bD 26 false false .i64 (af l_) (ao l_))<|CC<|BC f3<|BC f3<|BV f3 (wv 9 false false (aS l_).1 (aU l_).1)<|VV (az (a:=some (AV.bool true)) (b:=some (AV.bool (!decide ((aS l_).1=((aU l_).1))))) f3)<|CC<|BC f4<|BC f4<|BV f4 (bD 26 false false .i64 (aS l_).2 (aU l_).2)<|VV (az (a:=some (AV.bool true)) (b:=some (AV.bool (!decide ((aS l_).2=((aU l_).2))))) f4)<|BC f5<|EE sv<|CN 6<|EE ph<|CN 7<|VV (bD 26 false false .i64 (bZ l_).2 (b5 l_).2)<|CC<|BC f6<|BC f6<|BB f6<|EE Oc<|BC f6<|VV (az (a:=some (AV.bool true)) (b:=some (AV.bool (!(dI (bZ l_).1 (b5 l_).1)))) f6)<|BB f7<|CN 2<|EE P1<|CN 7<|EE P2<|CN 7<|VV (bD 3 false false .i64 (bq l_ s).1 (br l_ s).1)<|CC<|BC f8<|BC f8<|BV f8 (bD 26 false false .i64 (bq l_ s).2 (br l_ s).2)<|VV (az (a:=some (AV.bool true)) (b:=some (AV.bool (!decide ((bq l_ s).2=((br l_ s).2))))) f8)<|BB f9<|CN 2<|EE EA<|CN 11<|EE EC<|CN 11<|VV (ly 26 false false .i64 (bz l_ o).2.2.2 (bA l_ o).2.2.2)<|CC<|BC f10<|BC f10<|BB f10<|EE Y2<|VV (nG (bn (bz l_ o).1 (bA l_ o).1) false f10)<|CC<|BC f11<|BC f11<|BB f11<|EE k44<|VV (nG (bn (bz l_ o).2.1 (bA l_ o).2.1) false f11)<|CC<|BB f12<|BB f12<|BV f12 (Bf false f12)<|CC<|FF<|CN 2<|ZZ) k!) k!) qd rfl
                       · have e:dE l_ o s=false:=by simp only[dE,f0,f1,f2,f3,f4,f5,f6,f7,f8,f9,f10,f11,ah,ae]
                         rw[e]
                         exact ar rfl (aE Tryz.func3 fF rfl (.inr rfl) (pk (d+24) _ _ h _ sB (CN 2<|EE k1<|CC<|BC f0<|BB f0<|EE k3<|VV (az (a:=some (AV.bool true)) (b:=some (AV.bool (cL o))) f0)<|CC<|BC f1<|BV f1 B_<|BV f1 (cb 3 false true .i64 ((s.length:Nat):Int) 700)<|VV (az (a:=some (AV.bool true)) (b:=some (AV.bool (decide (700<((s.length:Nat):Int))))) f1)<|BC f2<|EE k7<|CN 6<|EE k8<|CN 6<|EE k9<|CC<|EE yE<|VV (bD 26 false false .i64 (af l_) (ao l_))<|CC<|BC f3<|BC f3<|BV f3 (wv 9 false false (aS l_).1 (aU l_).1)<|VV (az (a:=some (AV.bool true)) (b:=some (AV.bool (!decide ((aS l_).1=((aU l_).1))))) f3)<|CC<|BC f4<|BC f4<|BV f4 (bD 26 false false .i64 (aS l_).2 (aU l_).2)<|VV (az (a:=some (AV.bool true)) (b:=some (AV.bool (!decide ((aS l_).2=((aU l_).2))))) f4)<|BC f5<|EE sv<|CN 6<|EE ph<|CN 7<|VV (bD 26 false false .i64 (bZ l_).2 (b5 l_).2)<|CC<|BC f6<|BC f6<|BB f6<|EE Oc<|BC f6<|VV (az (a:=some (AV.bool true)) (b:=some (AV.bool (!(dI (bZ l_).1 (b5 l_).1)))) f6)<|BB f7<|CN 2<|EE P1<|CN 7<|EE P2<|CN 7<|VV (bD 3 false false .i64 (bq l_ s).1 (br l_ s).1)<|CC<|BC f8<|BC f8<|BV f8 (bD 26 false false .i64 (bq l_ s).2 (br l_ s).2)<|VV (az (a:=some (AV.bool true)) (b:=some (AV.bool (!decide ((bq l_ s).2=((br l_ s).2))))) f8)<|BB f9<|CN 2<|EE EA<|CN 11<|EE EC<|CN 11<|VV (ly 26 false false .i64 (bz l_ o).2.2.2 (bA l_ o).2.2.2)<|CC<|BC f10<|BC f10<|BB f10<|EE Y2<|VV (nG (bn (bz l_ o).1 (bA l_ o).1) false f10)<|CC<|BB f11<|BB f11<|BV f11 (Bf false f11)<|CC<|FF<|FF<|FF<|CN 2<|FF<|CN 2<|ZZ) k!) k!) qd rfl
                     · have X4:=of_decide_eq_false f10
                       have e:dE l_ o s=false:=by simp only[dE,f0,f1,f2,f3,f4,f5,f6,f7,f8,f9,f10,ah,ae]
                       rw[e]
                       exact ar rfl (aE Tryz.func3 fF rfl (.inr rfl) (pk (d+24) _ _ h _ sB (CN 2<|EE k1<|CC<|BC f0<|BB f0<|EE k3<|VV (az (a:=some (AV.bool true)) (b:=some (AV.bool (cL o))) f0)<|CC<|BC f1<|BV f1 B_<|BV f1 (cb 3 false true .i64 ((s.length:Nat):Int) 700)<|VV (az (a:=some (AV.bool true)) (b:=some (AV.bool (decide (700<((s.length:Nat):Int))))) f1)<|BC f2<|EE k7<|CN 6<|EE k8<|CN 6<|EE k9<|CC<|EE yE<|VV (bD 26 false false .i64 (af l_) (ao l_))<|CC<|BC f3<|BC f3<|BV f3 (wv 9 false false (aS l_).1 (aU l_).1)<|VV (az (a:=some (AV.bool true)) (b:=some (AV.bool (!decide ((aS l_).1=((aU l_).1))))) f3)<|CC<|BC f4<|BC f4<|BV f4 (bD 26 false false .i64 (aS l_).2 (aU l_).2)<|VV (az (a:=some (AV.bool true)) (b:=some (AV.bool (!decide ((aS l_).2=((aU l_).2))))) f4)<|BC f5<|EE sv<|CN 6<|EE ph<|CN 7<|VV (bD 26 false false .i64 (bZ l_).2 (b5 l_).2)<|CC<|BC f6<|BC f6<|BB f6<|EE Oc<|BC f6<|VV (az (a:=some (AV.bool true)) (b:=some (AV.bool (!(dI (bZ l_).1 (b5 l_).1)))) f6)<|BB f7<|CN 2<|EE P1<|CN 7<|EE P2<|CN 7<|VV (bD 3 false false .i64 (bq l_ s).1 (br l_ s).1)<|CC<|BC f8<|BC f8<|BV f8 (bD 26 false false .i64 (bq l_ s).2 (br l_ s).2)<|VV (az (a:=some (AV.bool true)) (b:=some (AV.bool (!decide ((bq l_ s).2=((br l_ s).2))))) f8)<|BB f9<|CN 2<|EE EA<|CN 11<|EE EC<|CN 11<|VV (ly 26 false false .i64 (bz l_ o).2.2.2 (bA l_ o).2.2.2)<|CC<|BB f10<|BB f10<|BV f10 (Bf false f10)<|CC<|FF<|FF<|FF<|CN 2<|FF<|FF<|FF<|CN 2<|FF<|CN 2<|ZZ) k!) k!) qd rfl
theorem Fact.eq_iff {x y:Fact}:Fact.eq x y=true↔x=y:=by
 constructor
 · intro h
   simp only[Fact.eq,Bool.and_eq_true,beq_iff_eq] at h
   obtain ⟨⟨⟨⟨h1,h2⟩,h3⟩,h4⟩,h5⟩:=h
   cases x;cases y;simp_all
 · rintro rfl
   simp [Fact.eq]
theorem Fact.eq_self (x:Fact):Fact.eq x x=true:=Fact.eq_iff.2 rfl
theorem Fact.qj {x y:Fact} (h:x≠y):Fact.eq x y=false:=by
 cases e:Fact.eq x y
 · rfl
 · exact absurd (Fact.eq_iff.1 e) h
def fX (l:List Fact) (f:Fact):Nat→Nat
 | 0=>0
 | i+1=>fX l f i+bif Fact.eq (l.g i) f then 1 else 0
theorem B0 (l:List Fact) (f:Fact):∀i,fX l f i≤i
 | 0=>Nat.le_refl _
 | i+1=>by
   have:=B0 l f i
   rw[fX]
   cases Fact.eq (l.g i) f<;>simp only[ah,ae]<;>omega
theorem zZ {l m:List Fact} (f:Fact):∀i,(∀j,j<i→l.g j=m.g j)→fX l f i=fX m f i
 | 0,_=>rfl
 | i+1,h=>by rw[fX,fX,zZ f i fun j hj=>h j o!,h i o!]
theorem B1 (l:List Fact) (f:Fact):∀(k i:Nat) (v:Int),v=(fX l f i:Nat)→i+k<1000000000→eH l f k i v=((fX l f (i+k):Nat):Int)
 | 0,i,v,h,_=>by rw[eH,h];rfl
 | k+1,i,v,h,hb=>by
   have:=B0 l f i
   have e:i+(k+1)=i+1+k:=by omega
   rw[eH,e]
   cases q:Fact.eq (l.g i) f with
   | true=>exact B1 l f k (i+1) _ (by rw[fX,q,ah,wrap_i64 o! o!];omega) o!
   | false=>exact B1 l f k (i+1) _ (by rw[fX,q,ae];omega) o!
theorem ED (l:List Fact) (f:Fact) (h:l.length<1000000000):fD l f=((fX l f l.length:Nat):Int):=by
 rw[fD,B1 l f l.length 0 0 rfl o!,Nat.zero_add]
theorem NV (f:Fact) (x:Int) (g:Fact):∀(M:lk) (i:Nat),(match dM i (nU M f x) g with | some (_,v)=>v | none=>(0:Int))=bif Fact.eq f g then x else (match dM i M g with | some (_,v)=>v | none=>0)
 | [],i=>by
   by_cases h:f=g
   · subst h;simp [nU,dM,Fact.eq_self]
   · have h1:=Fact.qj h
     have h2:=Fact.qj (Ne.symm h)
     simp [nU,dM,h1,h2]
 | (k,w)::r,i=>by
   have ih:=NV f x g r (i+1)
   rw[nU]
   by_cases hk:f=k
   · subst hk
     rw[Fact.eq_self,ah,dM,dM]
     by_cases h:f=g
     · subst h;simp only[Fact.eq_self,ah]
     · rw[Fact.qj (Ne.symm h),Fact.qj h];rfl
   · rw[Fact.qj hk,ae,dM,dM]
     by_cases h:g=k
     · subst h
       rw[Fact.eq_self,Fact.qj hk];rfl
     · rw[Fact.qj h];exact ih
theorem EF (M:lk) (f g:Fact) (x:Int):eK (nU M f x) g=bif Fact.eq f g then x else eK M g:=NV f x g M 0
theorem sh0 (o:List Fact):∀(k i:Nat) (M:lk),(∀f,eK M f=((fX o f i:Nat):Int))→i+k<1000000000→∀f,eK (bN o k i M) f=((fX o f (i+k):Nat):Int)
 | 0,i,M,h,_=>h
 | k+1,i,M,h,hb=>by
   have e:i+(k+1)=i+1+k:=by omega
   rw[bN,e]
   refine sh0 o k (i+1) _ (fun f=>?_) o!
   have c1:=B0 o (o.g i) i
   rw[EF,h,wrap_i64 o! o!,fX]
   by_cases q:o.g i=f
   · rw[q,Fact.eq_self,ah,ah];omega
   · rw[Fact.qj q,ae,ae,h];rfl
theorem sh1 (l o:List Fact) (hl:l.length<1000000) (ho:o.length<1000000):∀(k i:Nat) (u v:List Fact) (M:lk),i+k=l.length→(∀f,eK M f=((fX o f o.length - fX l f i:Nat):Int))→
 ((bG l k i u v M).1,(bG l k i u v M).2.1)=b6 l o k i u v
 | 0,i,u,v,M,_,_=>rfl
 | k+1,i,u,v,M,hk,h=>by
   have e1:fD (l.take i) (l.g i)=((fX l (l.g i) i:Nat):Int):=by
    have hlen:(l.take i).length=i:=by rw[List.length_take];omega
    rw[ED _ _ (by rw[hlen];omega),hlen,zZ (m:=l) _ i fun j hj=>HS hj]
   have e2:fD o (l.g i)=((fX o (l.g i) o.length:Nat):Int):=ED _ _ o!
   have c1:=B0 o (l.g i) o.length
   rw[bG,b6,e1,e2,h]
   by_cases q:fX l (l.g i) i<fX o (l.g i) o.length
   · rw[decide_eq_true (show (0:Int)<((fX o (l.g i) o.length - fX l (l.g i) i:Nat):Int) by omega),decide_eq_true (show ((fX l (l.g i) i:Nat):Int)<((fX o (l.g i) o.length:Nat):Int) by omega),ah,ah]
     refine sh1 l o hl ho k (i+1) _ _ _ o! fun f=>?_
     rw[EF,wrap_i64 o! o!,fX]
     by_cases z:l.g i=f
     · rw[z] at q ⊢;rw[Fact.eq_self,ah,ah];omega
     · rw[Fact.qj z,ae,ae,h];rfl
   · rw[decide_eq_false (show ¬(0:Int)<((fX o (l.g i) o.length - fX l (l.g i) i:Nat):Int) by omega),decide_eq_false (show ¬((fX l (l.g i) i:Nat):Int)<((fX o (l.g i) o.length:Nat):Int) by omega),ae,ae]
     refine sh1 l o hl ho k (i+1) _ _ _ o! fun f=>?_
     rw[h,fX]
     by_cases z:l.g i=f
     · rw[z] at q ⊢;rw[Fact.eq_self,ah];omega
     · rw[Fact.qj z,ae];rfl
theorem z6 {l o:List Fact} (hl:l.length≤512) (ho:o.length≤512):cj l o=cT l o:=by
 have h:=sh1 l o o! o! l.length 0 [] [] (bN o o.length 0 []) o! (fun f=>by
  have:=sh0 o o.length 0 [] (fun f=>rfl) o! f
  rw[Nat.zero_add] at this
  rw[this,fX,Nat.sub_zero])
 rw[cj,cT,←h]
theorem NW (a b:List Fact):bz a b=bA a b:=by
 rw[bz,bA,j_,j_]
 by_cases h1:ao a=0
 · rw[decide_eq_true h1,ah]
   by_cases h2:ao b=0
   · have l1:=di h1
     have l2:=di h2
     rw[decide_eq_true h2,z6 l1 l2,z6 l2 l1];rfl
   · rw[decide_eq_false h2];rfl
 · rw[decide_eq_false h1];rfl
theorem H7 {l:List Fact} (h:ao l=0):∀(k i:Nat) (t:List UInt8),i+k=l.length→cS l k i t=dS l k i t
 | 0,i,t,_=>rfl
 | k+1,i,t,e=>by rw[cS,dS,pe h i o!,H7 h k (i+1) _ o!]
theorem NX (l:List Fact):aS l=aU l:=by
 rw[aS,aU,j_]
 by_cases h:ao l=0
 · rw[decide_eq_true h,H7 h l.length 0 [] o!]
 · rw[decide_eq_false h];rfl
theorem NY (a:List Fact):∀(k i:Nat),du a a k i=none
 | 0,i=>rfl
 | k+1,i=>by rw[du,Fact.eq_self,Bool.not_true,ae,NY a k (i+1)]
theorem tG (a:List Fact):bn a a=true:=by
 rw[bn,decide_eq_true rfl,Bool.not_true,ae,NY]
theorem EG (a:List Int):∀(k i:Nat),gG a a k i=none
 | 0,i=>rfl
 | k+1,i=>by rw[gG,decide_eq_true rfl,Bool.not_true,ae,EG a k (i+1)]
theorem EH (a:List Int):dI a a=true:=by
 rw[dI,decide_eq_true rfl,Bool.not_true,ae,EG]
theorem NZ (l o:List Fact) (s:List Int):dE l o s=true:=by
 rw[dE,NW,NX,Gv,Ea,j_,tG,tG,tG,EH]
 simp only[decide_true,Bool.not_true,ah,ae]
 cases cL l<;>cases cL o<;>cases decide (700<((s.length:Nat):Int))<;>rfl
open Go.ChangeShapes Go.WideShapes Go.RowKit
structure Gx (φ φ':Ph) (h h':ag) (w:World):Prop where
 ok:OK env φ' h' w
 le:φ.le φ'
 ro:rL h'
 has:Has h h'
 nx:h.nx≤h'.nx
 tidy:Tidy h'
theorem Gx.refl {φ:Ph} {h:ag} {w:World} (ok:OK env φ h w) (ro:rL h) (y:Tidy h):Gx φ φ h h w:=⟨ok,Ph.le_refl _,ro,Has.refl _,Nat.le_refl _,y⟩
theorem Gx.trans {a b c:Ph} {h1 h2 h3:ag} {w:World} (x:Gx a b h1 h2 w) (y:Gx b c h2 h3 w):Gx a c h1 h3 w:=⟨y.ok,Ph.le_trans x.le y.le,y.ro,x.has.trans y.has,Nat.le_trans x.nx y.nx,y.tidy⟩
section
variable {H:Type} (enc:TypeId×Value→H) (w:World) (base:Nat) (spare:Nat→Bool) (held:Bool)
def Small (t:TypeId) (d:DataW H):Prop:=(DataW.weights env.P t d).all (· ≤reachBytes)=true
theorem Small.all {e:TypeId}:∀{l:List (DataW H)},(DataW.weightsAll env.P e l).all (· ≤reachBytes)=true→∀d∈l,Small e d
 | [],_,d,hd=>by cases hd
 | x::l,h,d,hd=>by
   rw[DataW.weightsAll,List.all_append,Bool.and_eq_true] at h
   rcases List.mem_cons.1 hd with rfl | hd
   · exact h.1
   · exact Small.all h.2 d hd
theorem Small.struct {t:TypeId} {fs:Array Field} {parts:List (DataW H)} (ht:env.P.underlying t=some (.struct fs)) (h:Small t (.agg parts)):(DataW.weightsEach env.P (fs.toList.map (·.type)) parts).all (· ≤reachBytes)=true:=by
 unfold Small at h
 rw[DataW.weights,ht] at h
 exact h
theorem Small.bQ {t:TypeId} {ts:List TypeId} {d:DataW H} {ds:List (DataW H)} (h:(DataW.weightsEach env.P (t::ts) (d::ds)).all (· ≤reachBytes)=true):Small t d∧(DataW.weightsEach env.P ts ds).all (· ≤reachBytes)=true:=by
 rw[DataW.weightsEach,List.all_append,Bool.and_eq_true] at h
 exact h
theorem B3 {n:Nat} (h:n≤reachBytes):n<2^60:=Nat.lt_of_le_of_lt h (by unfold reachBytes;decide)
def qk {D:Type} (t:TypeId) (sz:Nat) (c:D→List AV) (ok:ag→D→Prop):Prop:=
 ∀(φ:Ph) (h:ag),OK env φ h w→rL h→Tidy h→∀(cs:List Value) (y:DataW H×List MemPlace) (n:Nat),cs.length=sz→Small t y.1→DataW.trod enc env.P w base spare held n t cs=some y→
  ∃φ' h' x,Gx φ φ' h h' w∧LR φ' (c x) cs∧ok h' x
variable {enc w base spare held}
theorem tH {k:IntKind} {t:TypeId} (ht:env.P.underlying t=some (.int k)):qk enc w base spare held t 1 (fun x:Int=> [.int k x]) (fun _ _=>True):=fun φ h ok ro y cs z n _ hw hv=>by
 obtain ⟨m,rfl,_,_⟩:=DataW.trod_int ht hv
 exact ⟨φ,h,m,Gx.refl ok ro y,LR.cons (VR.int k m) (LR.nil _),trivial⟩
theorem tI {t:TypeId} (ht:env.P.underlying t=some .string):qk enc w base spare held t 1 (fun x:List UInt8=> [.str x]) (fun _ x=>x.length<2^60):=fun φ h ok ro y cs z n _ hw hv=>by
 obtain ⟨s,rfl,rfl,hs⟩:=DataW.trod_string ht hv
 refine ⟨φ,h,s.data.toList,Gx.refl ok ro y,LR.cons (VR.str s) (LR.nil _),?_⟩
 unfold Small at hw
 rw[DataW.weights,List.all_cons,Bool.and_eq_true] at hw
 exact B3 (of_decide_eq_true hw.1)
theorem EI {α:Type} [au α] {t:TypeId} (ht:env.P.underlying t=some (.slice (au.e α))) (hs:env.P.cellsOf (au.e α)=au.n α) (X6:0<env.P.bytesOf (au.e α)) (hm:∀(h:ag) (x:α) m,au.ok h x→AV.map m ∉ au.c x)
 (he:qk enc w base spare held (au.e α) (au.n α) (au.c (α:=α)) au.ok):qk enc w base spare held t 1 (fun x:AV×List α=> [x.1]) (fun h x=>ax h x.1 x.2):=fun φ h ok ro y cs z fuel _ hw hv=>by
 have E_:=au.pos (α:=α)
 rcases DataW.trod_slice ht hv with ⟨rfl,_⟩ | ⟨a,len,cap,elems,rest,n,_,rfl,rfl,hb,Sl,Y9,Uu,dw,_,_⟩
 · exact ⟨φ,h,(.aj,[]),Gx.refl ok ro y,LR.cons VR.aj (LR.nil _),⟨au.size,(Nat.zero_mul _).symm,Nat.pow_pos (by decide),rfl,.inl rfl⟩,.inl rfl,fun x hx=>by cases hx⟩
 rcases Nat.eq_zero_or_pos len with h0 | h0
 · subst h0
   exact ⟨φ,h,(.cJ,[]),Gx.refl ok ro y,LR.cons (VR.cJ a cap) (LR.nil _),⟨au.size,(Nat.zero_mul _).symm,Nat.pow_pos (by decide),rfl,.inl rfl⟩,.inr (.inl rfl),fun x hx=>by cases hx⟩
 have uz:len<2^60∧(DataW.weightsAll env.P (au.e α) (elems.map (·.1))).all (· ≤reachBytes)=true:=by
  unfold Small at hw
  rw[DataW.weights,ht] at hw
  simp only[List.all_cons,List.all_append,Bool.and_eq_true,List.length_map] at hw
  refine ⟨B3 (Nat.le_trans ?_ (of_decide_eq_true hw.1)),hw.2.1⟩
  rw[Uu]
  exact Nat.le_trans (Nat.le_add_right _ _) (Nat.le_mul_of_pos_right _ X6)
 have all:∀m,m≤len→∃(φ':Ph) (h':ag) (xs:List α),Gx φ φ' h h' w∧xs.length=m∧(∀x∈xs,au.ok h' x)∧∀(i:Nat) (x:α),xs[i]? =some x→∀j v,(au.c x)[j]? =some v→∃y,w.cell? ((a.add (i*au.n α)).add j)=some y∧VR φ' v y:=by
  intro m
  induction m with
  | zero=>exact fun _=>⟨φ,h,[],Gx.refl ok ro y,rfl,fun _ hx=>(by cases hx),fun i xi hx=>(by simp at hx)⟩
  | succ m ih=>
    intro N_
    obtain ⟨φ1,h1,xs,g1,hl,hq,hx⟩:=ih o!
    have h2:=dw m o!
    rw[List.getElem?_eq_getElem o!,hs] at h2
    simp only[Option.bind_eq_some_iff] at h2
    obtain ⟨ci,hc1,hc2⟩:=h2
    obtain ⟨_,JB,jR⟩:=World.cells?_some hc1
    obtain ⟨φ2,h2,x,g2,tN,iV⟩:=he φ1 h1 g1.ok g1.ro g1.tidy ci _ n JB (Small.all uz.2 _ (List.mem_map.2 ⟨_,List.getElem_mem _,rfl⟩)) hc2
    refine ⟨φ2,h2,xs++[x],g1.trans g2,by simp [hl],fun z hz=>?_,fun i z hz=>?_⟩
    · rcases List.mem_append.1 hz with h | h
      · exact au.mono g2.has (hq z h)
      · simp at h;subst h;exact iV
    · by_cases hi:i<xs.length
      · rw[List.getElem?_append_left hi] at hz
        intro j v hj
        obtain ⟨q,e1,e2⟩:=hx i z hz j v hj
        exact ⟨q,e1,e2.mono g2.le⟩
      · rw[List.getElem?_append_right o!] at hz
        have:i - xs.length=0:=by
         have:=(List.getElem?_eq_some_iff.1 hz).1
         simp at this;omega
        rw[this] at hz
        simp at hz;subst hz
        have:i=m:=by omega
        subst this
        intro j v hj
        have j6:j<(au.c x).length:=(List.getElem?_eq_some_iff.1 hj).1
        have QI:j<ci.length:=by rw[←tN.1];exact j6
        exact ⟨ci[j],by rw[jR j (by rw[JB] at QI;exact QI),List.getElem?_eq_getElem QI],tN.2 j v _ hj (List.getElem?_eq_getElem QI)⟩
 obtain ⟨φ1,h1,xs,g1,hl,hq,hx⟩:=all len (Nat.le_refl _)
 have tg:=ca au.len xs
 have sw:a.spot=none:=by
  have hx0:xs[0]? =some (xs[0]'o!):=List.getElem?_eq_getElem o!
  obtain ⟨y,hy,_⟩:=hx 0 _ hx0 0 ((au.c (xs[0]'o!))[0]'(by rw[au.len];exact E_)) (List.getElem?_eq_getElem _)
  simp only[Nat.zero_mul,Addr.add,if_true] at hy
  unfold World.cell? at hy
  split at hy
  · cases hsp:a.spot with
    | none=>rfl
    | some _=>rw[hsp] at hy;simp at hy
  · cases hy
 have N0:∀i j,(a.add (i*au.n α)).add j=⟨a.block,a.off+(i*au.n α+j),none⟩:=by
  intro i j
  obtain ⟨b,o,sp⟩:=a
  simp only at sw
  subst sw
  unfold Addr.add
  by_cases h1:i*au.n α=0<;>by_cases h2:j=0<;>simp [h1,h2,Nat.add_assoc]
 have cH:xs.flatMap au.c≠ []:=by
  intro e
  have:=congrArg List.length e
  rw[tg,hl] at this
  have:=Nat.mul_pos h0 E_
  simp at *
  omega
 obtain ⟨h',hn,nC,hle,Uv,abq,hg,hold,et⟩:=g1.ok.show g1.ro (b:=a.block) (off:=a.off) (e:=au.e α) cH (fun m N_=>by
  have:AV.map m∈xs.flatMap au.c:=by rw[N_];simp
  obtain ⟨z,hz,hmz⟩:=List.mem_flatMap.1 this
  exact hm h1 z m (hq z hz) hmz) (fun k v hk=>by
  have yU:k<(xs.flatMap au.c).length:=(List.getElem?_eq_some_iff.1 hk).1
  have X7:k/au.n α*au.n α+k%au.n α=k:=by rw[Nat.mul_comm];exact Nat.div_add_mod k _
  have hi:k/au.n α<xs.length:=by
   rw[tg] at yU
   exact (Nat.div_lt_iff_lt_mul E_).2 yU
  have X8:=hk
  rw[←X7,ju au.len _ _ _ hi (Nat.mod_lt _ E_)] at X8
  have hgi:xs[k/au.n α]? =some (xs.g (k/au.n α)):=by
   rw[List.g,List.getD_eq_getElem?_getD,List.getElem?_eq_getElem hi];rfl
  obtain ⟨y,hy,UM⟩:=hx _ _ hgi _ v X8
  rw[N0,X7] at hy
  exact ⟨y,hy,UM⟩)
 have hVR:=VR.slice (φ:=φ1.add h1.nx ⟨a.block,a.off,0⟩) 0 len cap false et
 have has:Has h1 h':=pM g1.tidy hn
 refine ⟨_,h',(.slice h1.nx 0 len cap false,xs),g1.trans ⟨nC,hle,Uv,has,by omega,gr g1.tidy hn⟩,LR.cons ?_ (LR.nil _),?_⟩
 · obtain ⟨b,o,sp⟩:=a
   simp only at sw
   subst sw
   exact hVR
 · subst hl
   exact ⟨⟨au.size,tg,uz.1,rfl,.inr ⟨h1.nx,0,_,cap,false,_,_,true,rfl,Sl,hg,fun j _=>by rw[Nat.zero_add]⟩⟩,.inr (.inr ⟨_,_,_,_,_,rfl,fun e=>by cases e⟩),fun x hx=>au.mono has (hq x hx)⟩
end
open Go.ChangeShapes Go.WideShapes Go.RowKit
section
variable {H:Type} {enc:TypeId×Value→H} {w:World} {base:Nat} {spare:Nat→Bool} {held:Bool}
theorem GM {α:Type} {t e_:TypeId} {n_:Nat} {c_:α→List AV} {ok_:ag→α→Prop} (yf:bh env e_=some n_) (hlen:∀x,(c_ x).length=n_) (So:0<n_) (Sd:∀{h h':ag} {x:α},Has h h'→ok_ h x→ok_ h' x) (hg_:∀(l:List α) (i:Nat) (hi:i<l.length),∃x,l[i]? =some x∧∀j,j<n_→(l.flatMap c_)[i*n_+j]? =(c_ x)[j]?) (ht:env.P.underlying t=some (.slice e_)) (hs:env.P.cellsOf e_=n_) (X6:0<env.P.bytesOf e_) (hm:∀(h:ag) (x:α) m,ok_ h x→AV.map m ∉ c_ x)
 (he:qk enc w base spare held e_ n_ c_ ok_):qk enc w base spare held t 1 (fun x:AV×List α=> [x.1]) (fun h x=>ji env h e_ n_ x.1 x.2.length (x.2.flatMap c_)∧(x.1= .aj∨x.1= .cJ∨∃p o m c b,x.1= .slice p o m c b)∧∀y∈x.2,ok_ h y):=fun φ h ok ro y cs z fuel _ hw hv=>by
 have E_:=So
 rcases DataW.trod_slice ht hv with ⟨rfl,_⟩ | ⟨a,len,cap,elems,rest,n,_,rfl,rfl,hb,Sl,Y9,Uu,dw,_,_⟩
 · exact ⟨φ,h,(.aj,[]),Gx.refl ok ro y,LR.cons VR.aj (LR.nil _),⟨yf,(Nat.zero_mul _).symm,Nat.pow_pos (by decide),rfl,.inl rfl⟩,.inl rfl,fun x hx=>by cases hx⟩
 rcases Nat.eq_zero_or_pos len with h0 | h0
 · subst h0
   exact ⟨φ,h,(.cJ,[]),Gx.refl ok ro y,LR.cons (VR.cJ a cap) (LR.nil _),⟨yf,(Nat.zero_mul _).symm,Nat.pow_pos (by decide),rfl,.inl rfl⟩,.inr (.inl rfl),fun x hx=>by cases hx⟩
 have uz:len<2^60∧(DataW.weightsAll env.P (e_) (elems.map (·.1))).all (· ≤reachBytes)=true:=by
  unfold Small at hw
  rw[DataW.weights,ht] at hw
  simp only[List.all_cons,List.all_append,Bool.and_eq_true,List.length_map] at hw
  refine ⟨B3 (Nat.le_trans ?_ (of_decide_eq_true hw.1)),hw.2.1⟩
  rw[Uu]
  exact Nat.le_trans (Nat.le_add_right _ _) (Nat.le_mul_of_pos_right _ X6)
 have all:∀m,m≤len→∃(φ':Ph) (h':ag) (xs:List α),Gx φ φ' h h' w∧xs.length=m∧(∀x∈xs,ok_ h' x)∧∀(i:Nat) (x:α),xs[i]? =some x→∀j v,(c_ x)[j]? =some v→∃y,w.cell? ((a.add (i*n_)).add j)=some y∧VR φ' v y:=by
  intro m
  induction m with
  | zero=>exact fun _=>⟨φ,h,[],Gx.refl ok ro y,rfl,fun _ hx=>(by cases hx),fun i xi hx=>(by simp at hx)⟩
  | succ m ih=>
    intro N_
    obtain ⟨φ1,h1,xs,g1,hl,hq,hx⟩:=ih o!
    have h2:=dw m o!
    rw[List.getElem?_eq_getElem o!,hs] at h2
    simp only[Option.bind_eq_some_iff] at h2
    obtain ⟨ci,hc1,hc2⟩:=h2
    obtain ⟨_,JB,jR⟩:=World.cells?_some hc1
    obtain ⟨φ2,h2,x,g2,tN,iV⟩:=he φ1 h1 g1.ok g1.ro g1.tidy ci _ n JB (Small.all uz.2 _ (List.mem_map.2 ⟨_,List.getElem_mem _,rfl⟩)) hc2
    refine ⟨φ2,h2,xs++[x],g1.trans g2,by simp [hl],fun z hz=>?_,fun i z hz=>?_⟩
    · rcases List.mem_append.1 hz with h | h
      · exact Sd g2.has (hq z h)
      · simp at h;subst h;exact iV
    · by_cases hi:i<xs.length
      · rw[List.getElem?_append_left hi] at hz
        intro j v hj
        obtain ⟨q,e1,e2⟩:=hx i z hz j v hj
        exact ⟨q,e1,e2.mono g2.le⟩
      · rw[List.getElem?_append_right o!] at hz
        have:i - xs.length=0:=by
         have:=(List.getElem?_eq_some_iff.1 hz).1
         simp at this;omega
        rw[this] at hz
        simp at hz;subst hz
        have:i=m:=by omega
        subst this
        intro j v hj
        have j6:j<(c_ x).length:=(List.getElem?_eq_some_iff.1 hj).1
        have QI:j<ci.length:=by rw[←tN.1];exact j6
        exact ⟨ci[j],by rw[jR j (by rw[JB] at QI;exact QI),List.getElem?_eq_getElem QI],tN.2 j v _ hj (List.getElem?_eq_getElem QI)⟩
 obtain ⟨φ1,h1,xs,g1,hl,hq,hx⟩:=all len (Nat.le_refl _)
 have tg:=ca hlen xs
 have sw:a.spot=none:=by
  have hx0:xs[0]? =some (xs[0]'o!):=List.getElem?_eq_getElem o!
  obtain ⟨y,hy,_⟩:=hx 0 _ hx0 0 ((c_ (xs[0]'o!))[0]'(by rw[hlen];exact E_)) (List.getElem?_eq_getElem _)
  simp only[Nat.zero_mul,Addr.add,if_true] at hy
  unfold World.cell? at hy
  split at hy
  · cases hsp:a.spot with
    | none=>rfl
    | some _=>rw[hsp] at hy;simp at hy
  · cases hy
 have N0:∀i j,(a.add (i*n_)).add j=⟨a.block,a.off+(i*n_+j),none⟩:=by
  intro i j
  obtain ⟨b,o,sp⟩:=a
  simp only at sw
  subst sw
  unfold Addr.add
  by_cases h1:i*n_=0<;>by_cases h2:j=0<;>simp [h1,h2,Nat.add_assoc]
 have cH:xs.flatMap c_≠ []:=by
  intro e
  have:=congrArg List.length e
  rw[tg,hl] at this
  have:=Nat.mul_pos h0 E_
  simp at *
  omega
 obtain ⟨h',hn,nC,hle,Uv,abq,hg,hold,et⟩:=g1.ok.show g1.ro (b:=a.block) (off:=a.off) (e:=e_) cH (fun m N_=>by
  have:AV.map m∈xs.flatMap c_:=by rw[N_];simp
  obtain ⟨z,hz,hmz⟩:=List.mem_flatMap.1 this
  exact hm h1 z m (hq z hz) hmz) (fun k v hk=>by
  have yU:k<(xs.flatMap c_).length:=(List.getElem?_eq_some_iff.1 hk).1
  have X7:k/n_*n_+k%n_=k:=by rw[Nat.mul_comm];exact Nat.div_add_mod k _
  have hi:k/n_<xs.length:=by
   rw[tg] at yU
   exact (Nat.div_lt_iff_lt_mul E_).2 yU
  have X8:=hk
  obtain ⟨xk,hgi,YD⟩:=hg_ xs _ hi
  rw[←X7,YD _ (Nat.mod_lt _ E_)] at X8
  obtain ⟨y,hy,UM⟩:=hx _ _ hgi _ v X8
  rw[N0,X7] at hy
  exact ⟨y,hy,UM⟩)
 have hVR:=VR.slice (φ:=φ1.add h1.nx ⟨a.block,a.off,0⟩) 0 len cap false et
 have has:Has h1 h':=pM g1.tidy hn
 refine ⟨_,h',(.slice h1.nx 0 len cap false,xs),g1.trans ⟨nC,hle,Uv,has,by omega,gr g1.tidy hn⟩,LR.cons ?_ (LR.nil _),?_⟩
 · obtain ⟨b,o,sp⟩:=a
   simp only at sw
   subst sw
   exact hVR
 · subst hl
   exact ⟨⟨yf,tg,uz.1,rfl,.inr ⟨h1.nx,0,_,cap,false,_,_,true,rfl,Sl,hg,fun j _=>by rw[Nat.zero_add]⟩⟩,.inr (.inr ⟨_,_,_,_,_,rfl⟩),fun x hx=>Sd has (hq x hx)⟩
theorem B4 (k:IntKind):∀l:List Int,(l.flatMap fun x=> [AV.int k x])=zs k l
 | []=>rfl
 | x::l=>by rw[List.flatMap_cons,B4 k l];rfl
theorem QJ (k:IntKind) (l:List Int) (i:Nat) (hi:i<l.length):∃x,l[i]? =some x∧∀j,j<1→(l.flatMap fun x=> [AV.int k x])[i*1+j]? =[AV.int k x][j]? :=by
 refine ⟨l[i],List.getElem?_eq_getElem hi,fun j hj=>?_⟩
 have:j=0:=by omega
 subst this
 rw[B4,zs,List.getElem?_map,Nat.mul_one,Nat.add_zero,List.getElem?_eq_getElem hi];rfl
theorem GN {k:IntKind} {t e:TypeId} (ht:env.P.underlying t=some (.slice e)) (hi:env.P.underlying e=some (.int k)) (yf:bh env e=some 1) (ha:dk env e=some false) (hs:env.P.cellsOf e=1) (X6:0<env.P.bytesOf e):qk enc w base spare held t 1 (fun x:AV×List Int=> [x.1]) (fun h x=>ef h k e x.1 x.2):=fun φ h ok ro y cs z n hl hw hv=>by
 obtain ⟨φ',h',x,g,l,a,b,_⟩:=GM (ok_:=fun _ _=>True) (c_:=fun x:Int=> [.int k x]) yf (fun _=>rfl) (by decide) (fun _ _=>trivial) (QJ k) ht hs X6 (fun _ x m _ hmm=>by simp at hmm) (tH hi) φ h ok ro y cs z n hl hw hv
 refine ⟨φ',h',x,g,l,?_⟩
 rw[B4] at a
 exact ef.mk a ha b
end
open Go.ChangeShapes Go.WideShapes Go.RowKit
section
variable {H:Type} {enc:TypeId×Value→H} {w:World} {base:Nat} {spare:Nat→Bool} {held:Bool}
theorem QK:Tryz.prog.cellsOf 3=1:=by kernel_rfl
theorem B5:Tryz.prog.cellsOf 9=1:=by kernel_rfl
theorem QL:Tryz.prog.cellsOf 2=1:=by kernel_rfl
theorem N1:Tryz.prog.cellsOf 40=5:=by kernel_rfl
theorem QM:qk enc w base spare held 40 5 (au.c (α:=Fact)) au.ok:=fun φ h0 ok ro ty cs z fuel hl hw hv=>by
 obtain ⟨xs,n,_,rfl,_,Af,hf⟩:=DataW.trod_struct Tryz.underlying40 hv
 obtain ⟨c0,c1,c2,c3,c4,rfl⟩:∃c0 c1 c2 c3 c4,cs=[c0,c1,c2,c3,c4]:=by
  match cs,hl with
  | [c0,c1,c2,c3,c4],_=>exact ⟨_,_,_,_,_,rfl⟩
 obtain ⟨y0,y1,y2,y3,y4,rfl⟩:∃y0 y1 y2 y3 y4,xs=[y0,y1,y2,y3,y4]:=by
  match xs,Af with
  | [y0,y1,y2,y3,y4],_=>exact ⟨_,_,_,_,_,rfl⟩
 have hs:=Small.struct Tryz.underlying40 hw
 obtain ⟨s0,hs⟩:=Small.bQ hs
 have q0:DataW.trod enc Tryz.prog w base spare held n 3 [c0]=some y0:=by simpa [QK] using hf 0 _ rfl
 obtain ⟨φ1,h1,x0,g0,l0,o0⟩:=tH (t:=3) Tryz.underlying3 _ _ (Gx.refl ok ro ty).ok (Gx.refl ok ro ty).ro (Gx.refl ok ro ty).tidy _ _ _ rfl s0 q0
 have G0:=Gx.trans (Gx.refl ok ro ty) g0
 obtain ⟨s1,hs⟩:=Small.bQ hs
 have q1:DataW.trod enc Tryz.prog w base spare held n 9 [c1]=some y1:=by simpa [B5] using hf 1 _ rfl
 obtain ⟨φ2,h2,x1,g1,l1,o1⟩:=tI (t:=9) Tryz.underlying9 _ _ G0.ok G0.ro G0.tidy _ _ _ rfl s1 q1
 have G1:=Gx.trans G0 g1
 obtain ⟨s2,hs⟩:=Small.bQ hs
 have q2:DataW.trod enc Tryz.prog w base spare held n 9 [c2]=some y2:=by simpa [B5] using hf 2 _ rfl
 obtain ⟨φ3,h3,x2,g2,l2,o2⟩:=tI (t:=9) Tryz.underlying9 _ _ G1.ok G1.ro G1.tidy _ _ _ rfl s2 q2
 have G2:=Gx.trans G1 g2
 obtain ⟨s3,hs⟩:=Small.bQ hs
 have q3:DataW.trod enc Tryz.prog w base spare held n 9 [c3]=some y3:=by simpa [B5] using hf 3 _ rfl
 obtain ⟨φ4,h4,x3,g3,l3,o3⟩:=tI (t:=9) Tryz.underlying9 _ _ G2.ok G2.ro G2.tidy _ _ _ rfl s3 q3
 have G3:=Gx.trans G2 g3
 obtain ⟨s4,hs⟩:=Small.bQ hs
 have q4:DataW.trod enc Tryz.prog w base spare held n 2 [c4]=some y4:=by simpa [QL] using hf 4 _ rfl
 obtain ⟨φ5,h5,x4,g4,l4,o4⟩:=tH (t:=2) Tryz.underlying2 _ _ G3.ok G3.ro G3.tidy _ _ _ rfl s4 q4
 have G4:=Gx.trans G3 g4
 have L0:=LR.mono (Ph.le_trans (Ph.le_trans (Ph.le_trans (Ph.le_trans (Ph.le_refl _) g1.le) g2.le) g3.le) g4.le) l0
 have L1:=LR.mono (Ph.le_trans (Ph.le_trans (Ph.le_trans (Ph.le_refl _) g2.le) g3.le) g4.le) l1
 have L2:=LR.mono (Ph.le_trans (Ph.le_trans (Ph.le_refl _) g3.le) g4.le) l2
 have L3:=LR.mono (Ph.le_trans (Ph.le_refl _) g4.le) l3
 have L4:=LR.mono (Ph.le_refl _) l4
 exact ⟨_,_,⟨x0,x1,x2,x3,x4⟩,G4,(LR.append L0 (LR.append L1 (LR.append L2 (LR.append L3 (LR.append L4 (LR.nil _)))))),⟨o1,o2,o3⟩⟩
theorem H8:qk enc w base spare held 22 1 (fun x:AV×List Fact=> [x.1]) (fun h x=>ax h x.1 x.2):=EI (t:=22) Tryz.underlying22 N1 (of_decide_eq_true (by kernel_rfl)) (fun _ x m _ h=>by cases x;simp [au.c,Fact.c] at h) QM
theorem N2:Tryz.prog.cellsOf 73=1:=by kernel_rfl
theorem QN:qk enc w base spare held 23 1 (fun x:AV×List Int=> [x.1]) (fun h x=>ef h .u64 73 x.1 x.2):=GN Tryz.underlying23 Tryz.underlying73 (by kernel_rfl) (by kernel_rfl) N2 (of_decide_eq_true (by kernel_rfl))
end
end
end Go.Proofs.aA
