import Derived.Test.YtfllahfbmaafcaaW0
import Derived.Test.YtfllahfbmaafcaaW9
namespace Go.Proofs.aK
open Go.Proofs Ab
noncomputable section
set_option maxRecDepth 100000
set_option maxHeartbeats 4000000
set_option linter.unusedVariables false
set_option linter.unusedSimpArgs false
def ff:Code:=(Try.f4.body).getD .skip
theorem hJ:Try.f4.body=some ff:=by kernel_rfl
def fh (q:aw) (l_:List aB) (t:Int) (bO:Int):Bool:=(bif (dQ q l_) then true else (bif (decide (((l_.length:Nat):Int)=0)) then true else (bif (!decide ((ay q l_ t).2=0)) then (bif (decide ((((ay q l_ t).1.length:Nat):Int)=0)) then true else false) else (bif (!decide ((ay q ((([]:List aB)++(l_.take (Int.tmod (IntKind.i64.wrap ((Int.tmod bO ((l_.length:Nat):Int))+((l_.length:Nat):Int))) ((l_.length:Nat):Int)).toNat))++(l_.drop ((Int.tmod (IntKind.i64.wrap ((Int.tmod bO ((l_.length:Nat):Int))+((l_.length:Nat):Int))) ((l_.length:Nat):Int))+1).toNat)) t).2=0)) then false else (bif (!(bR (ay q l_ t).1 (ay q ((([]:List aB)++(l_.take (Int.tmod (IntKind.i64.wrap ((Int.tmod bO ((l_.length:Nat):Int))+((l_.length:Nat):Int))) ((l_.length:Nat):Int)).toNat))++(l_.drop ((Int.tmod (IntKind.i64.wrap ((Int.tmod bO ((l_.length:Nat):Int))+((l_.length:Nat):Int))) ((l_.length:Nat):Int))+1).toNat)) t).1)) then false else (bif (decide (q.bad<((q.ao.length:Nat):Int))) then (bif (!decide ((ay (⟨q.name,q.ai,q.af,q.aH,q.aJ,(q.bad+1),.aI,q.ao⟩:aw) l_ t).2=0)) then false else (bif (!(bR (ay q l_ t).1 (ay (⟨q.name,q.ai,q.af,q.aH,q.aJ,(q.bad+1),.aI,q.ao⟩:aw) l_ t).1)) then false else (bif (decide ((ay (⟨q.name,q.ai,q.af,q.aH,q.aJ,q.bad,.aI,((([]:List aE)++q.ao).set (l_.g (Int.tmod (IntKind.i64.wrap ((Int.tmod bO ((l_.length:Nat):Int))+((l_.length:Nat):Int))) ((l_.length:Nat):Int)).toNat).aC.toNat ({((([]:List aE)++q.ao).g (l_.g (Int.tmod (IntKind.i64.wrap ((Int.tmod bO ((l_.length:Nat):Int))+((l_.length:Nat):Int))) ((l_.length:Nat):Int)).toNat).aC.toNat) with acc:=(IntKind.i64.wrap (Int.tdiv ((([]:List aE)++q.ao).g (l_.g (Int.tmod (IntKind.i64.wrap ((Int.tmod bO ((l_.length:Nat):Int))+((l_.length:Nat):Int))) ((l_.length:Nat):Int)).toNat).aC.toNat).acc 2))}:aE))⟩:aw) l_ t).2=0)) then (bif (bR (ay (⟨q.name,q.ai,q.af,q.aH,q.aJ,q.bad,.aI,((([]:List aE)++q.ao).set (l_.g (Int.tmod (IntKind.i64.wrap ((Int.tmod bO ((l_.length:Nat):Int))+((l_.length:Nat):Int))) ((l_.length:Nat):Int)).toNat).aC.toNat ({((([]:List aE)++q.ao).g (l_.g (Int.tmod (IntKind.i64.wrap ((Int.tmod bO ((l_.length:Nat):Int))+((l_.length:Nat):Int))) ((l_.length:Nat):Int)).toNat).aC.toNat) with acc:=(IntKind.i64.wrap (Int.tdiv ((([]:List aE)++q.ao).g (l_.g (Int.tmod (IntKind.i64.wrap ((Int.tmod bO ((l_.length:Nat):Int))+((l_.length:Nat):Int))) ((l_.length:Nat):Int)).toNat).aC.toNat).acc 2))}:aE))⟩:aw) l_ t).1 (ay q l_ t).1) then true else false) else false))) else (bif (decide ((ay (⟨q.name,q.ai,q.af,q.aH,q.aJ,q.bad,.aI,((([]:List aE)++q.ao).set (l_.g (Int.tmod (IntKind.i64.wrap ((Int.tmod bO ((l_.length:Nat):Int))+((l_.length:Nat):Int))) ((l_.length:Nat):Int)).toNat).aC.toNat ({((([]:List aE)++q.ao).g (l_.g (Int.tmod (IntKind.i64.wrap ((Int.tmod bO ((l_.length:Nat):Int))+((l_.length:Nat):Int))) ((l_.length:Nat):Int)).toNat).aC.toNat) with acc:=(IntKind.i64.wrap (Int.tdiv ((([]:List aE)++q.ao).g (l_.g (Int.tmod (IntKind.i64.wrap ((Int.tmod bO ((l_.length:Nat):Int))+((l_.length:Nat):Int))) ((l_.length:Nat):Int)).toNat).aC.toNat).acc 2))}:aE))⟩:aw) l_ t).2=0)) then (bif (bR (ay (⟨q.name,q.ai,q.af,q.aH,q.aJ,q.bad,.aI,((([]:List aE)++q.ao).set (l_.g (Int.tmod (IntKind.i64.wrap ((Int.tmod bO ((l_.length:Nat):Int))+((l_.length:Nat):Int))) ((l_.length:Nat):Int)).toNat).aC.toNat ({((([]:List aE)++q.ao).g (l_.g (Int.tmod (IntKind.i64.wrap ((Int.tmod bO ((l_.length:Nat):Int))+((l_.length:Nat):Int))) ((l_.length:Nat):Int)).toNat).aC.toNat) with acc:=(IntKind.i64.wrap (Int.tdiv ((([]:List aE)++q.ao).g (l_.g (Int.tmod (IntKind.i64.wrap ((Int.tmod bO ((l_.length:Nat):Int))+((l_.length:Nat):Int))) ((l_.length:Nat):Int)).toNat).aC.toNat).acc 2))}:aE))⟩:aw) l_ t).1 (ay q l_ t).1) then true else false) else false)))))))
theorem Uu {d:Nat} {h:au} {nI:AV} (q:aw) (l_:List aB) (t:Int) (bO:Int) (jH:az.ok h q) (gN:aQ h nI l_) (cj:Tidy h):dw (d+16) (.fn 4) [(AV.agg [(AV.str q.name),(Zi q.ai),(Zi q.af),(Zi q.aH),(Zi q.aJ),(Zi q.bad),q.aA]),nI,(Zi t),(Zi bO)] h= .ret (AV.bool (fh q l_ t bO)) h:=by
 have Dv:=gN.small
 have nt:=jH.2.small
 obtain ⟨h1,b9,cL,kt,aO,cz⟩:=jS cj (aR.cells [(AV.str q.name),(Zi q.ai),(Zi q.af),(Zi q.aH),(Zi q.aJ),(Zi q.bad),q.aA] 26 false)
 have bQ:Has h h1:=cz
 have k2:=Qv (d:=d+14) q l_ (az.mono bQ jH) (gN.has bQ) cL
 rcases Bool.eq_false_or_eq_true (dQ q l_) with f0 | f0
 · have k4:=vh (d:=d+14) (h:=h1)
   have e:fh q l_ t bO=true:=by simp only[fh,f0,ax,ar]
   rw[e]
   exact aF rfl (bu Try.func4 hJ rfl (.inr rfl) (pk (d+15) _ _ h _ h1 (NN b9 (fun i=>(Pt i))<|CC<|MM (aL 26 0 (AV.agg [(AV.str q.name),(Zi q.ai),(Zi q.af),(Zi q.aH),(Zi q.aJ),(Zi q.bad),q.aA]) aO k!)<|CC<|EE k2<|CC<|BB f0<|BB f0<|BV f0 (AI true f0)<|TT<|EE k4<|CC<|ZZ) k!) k!) bQ rfl
 · have ae5:=rV f0
   have ae6:=Ur f0
   have As:eF (some (.slice 43)) (some nI)=some (Zn l_.length):=gN.len
   rcases Bool.eq_false_or_eq_true (decide (((l_.length:Nat):Int)=0)) with f1 | f1
   · have tp:=of_decide_eq_true f1
     have k6:=vh (d:=d+14) (h:=h1)
     have e:fh q l_ t bO=true:=by simp only[fh,f0,f1,ax,ar]
     rw[e]
     exact aF rfl (bu Try.func4 hJ rfl (.inr rfl) (pk (d+15) _ _ h _ h1 (NN b9 (fun i=>(Pt i))<|CC<|MM (aL 26 0 (AV.agg [(AV.str q.name),(Zi q.ai),(Zi q.af),(Zi q.aH),(Zi q.aJ),(Zi q.bad),q.aA]) aO k!)<|CC<|EE k2<|CC<|BC f0<|BV f0 As<|BV f0 (dZ 3 false true .i64 ((l_.length:Nat):Int) 0)<|VV (bJ (a:=some (AV.bool true)) (b:=some (AV.bool (decide (((l_.length:Nat):Int)=0)))) f0)<|BB f1<|EE k6<|CC<|ZZ) k!) k!) bQ rfl
   · have tp:=of_decide_eq_false f1
     obtain ⟨z7,h6,si,dM,⟨B',aeh⟩⟩:=j9 (d:=d+1) q l_ t (az.mono bQ jH) (gN.has bQ) (by first | omega | exact rV (by assumption) | (simp only[List.length_append,List.length_nil,List.length_take,List.length_drop];omega)) cL
     have js:=dM.y
     have abA:h1.nx≤h6.nx:=dM.n
     have mV:Has h h6:=bQ.trans dM.a
     have ae7:=B'.small
     rcases Bool.eq_false_or_eq_true (!decide ((ay q l_ t).2=0)) with f2 | f2
     · have uM:=HI f2
       have LD:eF (some (.slice 23)) (some z7)=some (Zn (ay q l_ t).1.length):=B'.len
       rcases Bool.eq_false_or_eq_true (decide ((((ay q l_ t).1.length:Nat):Int)=0)) with f3 | f3
       · have qL:=of_decide_eq_true f3
         have HG:=vh (d:=d+14) (h:=h6)
         have e:fh q l_ t bO=true:=by simp only[fh,f0,f1,f2,f3,ax,ar]
         rw[e]
         exact aF rfl (bu Try.func4 hJ rfl (.inr rfl) (pk (d+15) _ _ h _ h6 (NN b9 (fun i=>(Pt i))<|CC<|MM (aL 26 0 (AV.agg [(AV.str q.name),(Zi q.ai),(Zi q.af),(Zi q.aH),(Zi q.aJ),(Zi q.bad),q.aA]) aO k!)<|CC<|EE k2<|CC<|BC f0<|BV f0 As<|BV f0 (dZ 3 false true .i64 ((l_.length:Nat):Int) 0)<|VV (bJ (a:=some (AV.bool true)) (b:=some (AV.bool (decide (((l_.length:Nat):Int)=0)))) f0)<|BM f1 (aL 26 0 (AV.agg [(AV.str q.name),(Zi q.ai),(Zi q.af),(Zi q.aH),(Zi q.aJ),(Zi q.bad),q.aA]) aO k!)<|CN 2<|EE si<|CN 6<|VV (gL 31 false true .i64 (ay q l_ t).2 0)<|BC f2<|VV LD<|VV (dZ 3 false true .i64 (((ay q l_ t).1.length:Nat):Int) 0)<|CC<|BB f3<|EE HG<|VV (jG true false f3)<|CC<|ZZ) k!) k!) mV rfl
       · have qL:=of_decide_eq_false f3
         have e:fh q l_ t bO=false:=by simp only[fh,f0,f1,f2,f3,ax,ar]
         rw[e]
         exact aF rfl (bu Try.func4 hJ rfl (.inr rfl) (pk (d+15) _ _ h _ h6 (NN b9 (fun i=>(Pt i))<|CC<|MM (aL 26 0 (AV.agg [(AV.str q.name),(Zi q.ai),(Zi q.af),(Zi q.aH),(Zi q.aJ),(Zi q.bad),q.aA]) aO k!)<|CC<|EE k2<|CC<|BC f0<|BV f0 As<|BV f0 (dZ 3 false true .i64 ((l_.length:Nat):Int) 0)<|VV (bJ (a:=some (AV.bool true)) (b:=some (AV.bool (decide (((l_.length:Nat):Int)=0)))) f0)<|BM f1 (aL 26 0 (AV.agg [(AV.str q.name),(Zi q.ai),(Zi q.af),(Zi q.aH),(Zi q.aJ),(Zi q.bad),q.aA]) aO k!)<|CN 2<|EE si<|CN 6<|VV (gL 31 false true .i64 (ay q l_ t).2 0)<|BC f2<|VV LD<|VV (dZ 3 false true .i64 (((ay q l_ t).1.length:Nat):Int) 0)<|CC<|BV f3 (pH false f3)<|CC<|ZZ) k!) k!) mV rfl
     · have uM:=HJ f2
       have acz:=Qx uM
       have LD:eF (some (.slice 43)) (some nI)=some (Zn l_.length):=gN.len
       have pw:eF (some (.slice 43)) (some nI)=some (Zn l_.length):=gN.len
       have A':eF (some (.slice 43)) (some nI)=some (Zn l_.length):=gN.len
       obtain ⟨b8,je⟩:∃q_:Int,q_=(Int.tmod (IntKind.i64.wrap ((Int.tmod bO ((l_.length:Nat):Int))+((l_.length:Nat):Int))) ((l_.length:Nat):Int)):=⟨_,rfl⟩
       have aei:0≤b8∧b8<((l_.length:Nat):Int):=by rw[je];exact modn o! (by first | omega | exact aej _ _ _)
       have aek:=Aw (q:=q) (l:=l_) (t:=t) (by assumption) (show b8.toNat<l_.length by omega)
       obtain ⟨vg,sF,Qh,ae8,rj,VT⟩:=jS js (aR.cells [] 43 false)
       have xh:Has h vg:=mV.trans VT
       have Gr:Has h6 vg:=VT
       obtain ⟨M4,abH,Qz⟩:=gN.pre (t:=27) k! (i:=b8.toNat) o!
       have Ba:dW env 27 nI (none) (some (Zi b8)) (none)=some M4:=by rw[show (b8:Int)=((b8.toNat:Nat):Int) by omega];exact abH
       have RW:IntKind.i64.wrap (b8+1)=b8+1:=wrap_i64 o! o!
       obtain ⟨M5,abI,QA⟩:=gN.suf (t:=27) k! (i:=(b8+1).toNat) o! o!
       have Bb:dW env 27 nI (some (Zi (b8+1))) (none) (none)=some M5:=by rw[show ((b8+1):Int)=(((b8+1).toNat:Nat):Int) by omega];exact abI
       obtain ⟨z21,uX,nO,PD,ae9,afa,abJ,IH⟩:=ba.W3 (tys:= #[27,27]) (l:=([]:List aB)) (m:=(l_.take b8.toNat)) (x:=M4) Qh js Gr o! (.inl ⟨.inr ⟨_,rfl,(Nat.le_refl _),rj⟩,rfl⟩:ba h6 vg (AV.slice h6.nx 0 0 0 false) ([]:List aB)) (Qz.has xh).jD (Qz.has xh).first (jw (Qz.has xh) fun y hy=>aB.sc ((Qz.has xh).Dp y hy)) (by first | omega | (simp<;>omega)) rfl rfl k! k! (bytes:=24) k! (z0:=(AV.agg [(Zi 0),(Zi 0),(Zi 0)])) k! rfl (by decide)
       have zV:Has h uX:=xh.trans IH
       have QB:Has h6 uX:=Gr.trans IH
       have QC:∀y∈(([]:List aB)++(l_.take b8.toNat)),az.ok uX y:=Dq IH (nE (fun y hy=>by cases hy) (Qz.has xh).Dp)
       have Yh:aQ uX z21 (([]:List aB)++(l_.take b8.toNat)):=ba.rows abJ (by first | omega | (simp<;>omega)) QC
       have abK:=Yh.small
       obtain ⟨z24,oC,nQ,rh,afb,cD,ael,X8⟩:=ba.app (tys:= #[27,27]) (l:=(([]:List aB)++(l_.take b8.toNat))) (m:=(l_.drop (b8+1).toNat)) (x:=M5) PD js QB o! abJ (QA.has zV).jD (QA.has zV).first (jw (QA.has zV) fun y hy=>aB.sc ((QA.has zV).Dp y hy)) (by first | omega | (simp<;>omega)) rfl rfl k! k! (bytes:=24) k! (z0:=(AV.agg [(Zi 0),(Zi 0),(Zi 0)])) k! rfl (by decide)
       have J8:Has h oC:=mV.trans cD
       have QD:Has h6 oC:=cD
       have Yi:∀y∈((([]:List aB)++(l_.take b8.toNat))++(l_.drop (b8+1).toNat)),az.ok oC y:=cR (D:=aB) (nE QC (QA.has zV).Dp)
       have QE:aQ oC z24 ((([]:List aB)++(l_.take b8.toNat))++(l_.drop (b8+1).toNat)):=ba.rows ael (by first | omega | (simp<;>omega)) Yi
       have abL:=QE.small
       obtain ⟨z27,xn,sG,cW,⟨QF,acA⟩⟩:=j9 (d:=d+1) q ((([]:List aB)++(l_.take b8.toNat))++(l_.drop (b8+1).toNat)) t (az.mono J8 jH) QE (by first | omega | exact rV (by assumption) | (simp only[List.length_append,List.length_nil,List.length_take,List.length_drop];omega)) rh
       have sH:=cW.y
       have afc:oC.nx≤xn.nx:=cW.n
       have QG:Has h xn:=J8.trans cW.a
       have Gs:Has h6 xn:=QD.trans cW.a
       have LF:Has oC xn:=cW.a
       have aem:=QF.small
       rcases Bool.eq_false_or_eq_true (!decide ((ay q ((([]:List aB)++(l_.take b8.toNat))++(l_.drop (b8+1).toNat)) t).2=0)) with f3 | f3
       · have qL:=HI f3
         have ev:=pk (d+15) ff ((AV.agg [(AV.str q.name),(Zi q.ai),(Zi q.af),(Zi q.aH),(Zi q.aJ),(Zi q.bad),q.aA])::nI::(Zi t)::(Zi bO)::ka 141) h .ret xn (NN b9 (fun i=>(Pt i))<|CC<|MM (aL 26 0 (AV.agg [(AV.str q.name),(Zi q.ai),(Zi q.af),(Zi q.aH),(Zi q.aJ),(Zi q.bad),q.aA]) aO k!)<|CC<|EE k2<|CC<|BC f0<|BV f0 As<|BV f0 (dZ 3 false true .i64 ((l_.length:Nat):Int) 0)<|VV (bJ (a:=some (AV.bool true)) (b:=some (AV.bool (decide (((l_.length:Nat):Int)=0)))) f0)<|BM f1 (aL 26 0 (AV.agg [(AV.str q.name),(Zi q.ai),(Zi q.af),(Zi q.aH),(Zi q.aJ),(Zi q.bad),q.aA]) aO k!)<|CN 2<|EE si<|CN 6<|VV (gL 31 false true .i64 (ay q l_ t).2 0)<|BB f2<|CN 2<|VV LD<|VV (show bU env .rem 3 false false (some (Zi bO)) (some (Zn l_.length))=some (Zi (Int.tmod bO ((l_.length:Nat):Int))) from cy o! rfl)<|CC<|VV pw<|CN 2<|VV A'<|VV (show bU env .rem 3 false false (some (Zi (IntKind.i64.wrap ((Int.tmod bO ((l_.length:Nat):Int))+((l_.length:Nat):Int))))) (some (Zn l_.length))=some (Zi b8) from cy o! je.symm)<|CC<|NN sF (fun i=>(AV.slice i 0 0 0 false))<|CN 2<|QQ Ba<|CN 2<|VV (oU 3 false true RW)<|QQ Bb<|PP (show bf env vg #[27,27] (AV.slice h6.nx 0 0 0 false) M4=some (z21,uX) from nO)<|PP (show bf env uX #[27,27] z21 M5=some (z24,oC) from nQ)<|CC<|HH (show ∃o,vg.get h6.nx=some o∧aR.same o (aR.cells [] 43 false)=true from ⟨_,rj,by simp [aR.same,cg,AV.same]⟩)<|MM (aL 26 0 (AV.agg [(AV.str q.name),(Zi q.ai),(Zi q.af),(Zi q.aH),(Zi q.aJ),(Zi q.bad),q.aA]) (cD _ _ (dM.a _ _ aO)) k!)<|CN 2<|EE sG<|CN 6<|VV (gL 31 false true .i64 (ay q ((([]:List aB)++(l_.take b8.toNat))++(l_.drop (b8+1).toNat)) t).2 0)<|CC<|BB f3<|BB f3<|BB f3<|BV f3 (AI true f3)<|TT<|CC<|ZZ) k!
         subst je
         have e:fh q l_ t bO=false:=by simp only[fh,f0,f1,f2,f3,ax,ar]
         rw[e]
         exact aF rfl (bu Try.func4 hJ k! (.inr rfl) ev k!) QG rfl
       · have qL:=HJ f3
         have O4:=py (d:=d+14) (ay q l_ t).1 (ay q ((([]:List aB)++(l_.take b8.toNat))++(l_.drop (b8+1).toNat)) t).1 (B'.has Gs) QF sH
         rcases Bool.eq_false_or_eq_true (!(bR (ay q l_ t).1 (ay q ((([]:List aB)++(l_.take b8.toNat))++(l_.drop (b8+1).toNat)) t).1)) with f4 | f4
         · have ev:=pk (d+15) ff ((AV.agg [(AV.str q.name),(Zi q.ai),(Zi q.af),(Zi q.aH),(Zi q.aJ),(Zi q.bad),q.aA])::nI::(Zi t)::(Zi bO)::ka 141) h .ret xn (NN b9 (fun i=>(Pt i))<|CC<|MM (aL 26 0 (AV.agg [(AV.str q.name),(Zi q.ai),(Zi q.af),(Zi q.aH),(Zi q.aJ),(Zi q.bad),q.aA]) aO k!)<|CC<|EE k2<|CC<|BC f0<|BV f0 As<|BV f0 (dZ 3 false true .i64 ((l_.length:Nat):Int) 0)<|VV (bJ (a:=some (AV.bool true)) (b:=some (AV.bool (decide (((l_.length:Nat):Int)=0)))) f0)<|BM f1 (aL 26 0 (AV.agg [(AV.str q.name),(Zi q.ai),(Zi q.af),(Zi q.aH),(Zi q.aJ),(Zi q.bad),q.aA]) aO k!)<|CN 2<|EE si<|CN 6<|VV (gL 31 false true .i64 (ay q l_ t).2 0)<|BB f2<|CN 2<|VV LD<|VV (show bU env .rem 3 false false (some (Zi bO)) (some (Zn l_.length))=some (Zi (Int.tmod bO ((l_.length:Nat):Int))) from cy o! rfl)<|CC<|VV pw<|CN 2<|VV A'<|VV (show bU env .rem 3 false false (some (Zi (IntKind.i64.wrap ((Int.tmod bO ((l_.length:Nat):Int))+((l_.length:Nat):Int))))) (some (Zn l_.length))=some (Zi b8) from cy o! je.symm)<|CC<|NN sF (fun i=>(AV.slice i 0 0 0 false))<|CN 2<|QQ Ba<|CN 2<|VV (oU 3 false true RW)<|QQ Bb<|PP (show bf env vg #[27,27] (AV.slice h6.nx 0 0 0 false) M4=some (z21,uX) from nO)<|PP (show bf env uX #[27,27] z21 M5=some (z24,oC) from nQ)<|CC<|HH (show ∃o,vg.get h6.nx=some o∧aR.same o (aR.cells [] 43 false)=true from ⟨_,rj,by simp [aR.same,cg,AV.same]⟩)<|MM (aL 26 0 (AV.agg [(AV.str q.name),(Zi q.ai),(Zi q.af),(Zi q.aH),(Zi q.aJ),(Zi q.bad),q.aA]) (cD _ _ (dM.a _ _ aO)) k!)<|CN 2<|EE sG<|CN 6<|VV (gL 31 false true .i64 (ay q ((([]:List aB)++(l_.take b8.toNat))++(l_.drop (b8+1).toNat)) t).2 0)<|CC<|BC f3<|BC f3<|BB f3<|EE O4<|BC f3<|VV (bJ (a:=some (AV.bool true)) (b:=some (AV.bool (!(bR (ay q l_ t).1 (ay q ((([]:List aB)++(l_.take b8.toNat))++(l_.drop (b8+1).toNat)) t).1)))) f3)<|BC f4<|ZZ) k!
           subst je
           have e:fh q l_ t bO=false:=by simp only[fh,f0,f1,f2,f3,f4,ax,ar]
           rw[e]
           exact aF rfl (bu Try.func4 hJ k! (.inr rfl) ev k!) QG rfl
         · obtain ⟨h31,xp,abM,afd,abN,dV⟩:=jS sH (aR.cells [(AV.str []),(Zi 0),(Zi 0),(Zi 0),(Zi 0),(Zi 0),AV.aI] 26 false)
           have abO:Has h h31:=QG.trans dV
           have QH:Has h6 h31:=Gs.trans dV
           have LG:Has oC h31:=LF.trans dV
           have LH:Has xn h31:=dV
           have Yj:AV.scalar q.aA=true:=jH.2.scalar
           obtain ⟨Ka,xq,Gt,afe,abP,cP⟩:=sa (t:=26) (n:=7) (i:=xn.nx) (L:=[(AV.str q.name),(Zi q.ai),(Zi q.af),(Zi q.aH),(Zi q.aJ),(Zi q.bad),q.aA]) abM abN k! rfl rfl (by simp only[AV.cells,List.all_cons,List.all_nil,Bool.and_true,Bool.and_self,ib,fL,ic,ie,ei,kR,kS,kT,kU,kV,ig,Yj])
           have QI:Has h Ka:=Has.bG abO cP cj o!
           have Gu:Has h6 Ka:=Has.bG QH cP js o!
           have Ca:Has oC Ka:=Has.bG LG cP rh o!
           have Cb:Has xn Ka:=Has.bG LH cP sH o!
           have Gv:eF (some (.slice 45)) (some q.aA)=some (Zn q.ao.length):=jH.2.len
           rcases Bool.eq_false_or_eq_true (decide (q.bad<((q.ao.length:Nat):Int))) with f5 | f5
           · have zP:=of_decide_eq_true f5
             have w36:IntKind.i64.wrap (q.bad+1)=q.bad+1:=wrap_i64 o! o!
             obtain ⟨LI,Gw,Kb,aff,Gy,nR⟩:=W1 (t:=3) (n:=1) (i:=xn.nx) (o:=5) (v:=(Zi (q.bad+1))) (N:=[(AV.str q.name),(Zi q.ai),(Zi q.af),(Zi q.aH),(Zi q.aJ),(Zi (q.bad+1)),q.aA]) Gt abP k! rfl k! k! (by simp only[AV.cells,List.all_cons,List.all_nil,Bool.and_true,Bool.and_self,ib,fL,ic,ie,ei,kR,kS,kT,kU,kV,ig])
             have QJ:Has h LI:=Has.bG QI nR cj o!
             have QK:Has h6 LI:=Has.bG Gu nR js o!
             have LJ:Has oC LI:=Has.bG Ca nR rh o!
             have LK:Has xn LI:=Has.bG Cb nR sH o!
             obtain ⟨z39,D6,Cc,ox,⟨II,Uv⟩⟩:=j9 (d:=d+1) (⟨q.name,q.ai,q.af,q.aH,q.aJ,(q.bad+1),q.aA,q.ao⟩:aw) l_ t (⟨jH.1,(jH.2.has QJ)⟩) (gN.has QJ) (by first | omega | exact rV (by assumption) | (simp only[List.length_append,List.length_nil,List.length_take,List.length_drop];omega)) Kb
             rw[px] at Cc II Uv
             have GA:=ox.y
             have afg:LI.nx≤D6.nx:=ox.n
             have Kc:Has h D6:=QJ.trans ox.a
             have GB:Has h6 D6:=QK.trans ox.a
             have LM:Has oC D6:=LJ.trans ox.a
             have LN:Has xn D6:=LK.trans ox.a
             have LO:Has LI D6:=ox.a
             have aen:=II.small
             rcases Bool.eq_false_or_eq_true (!decide ((ay (⟨q.name,q.ai,q.af,q.aH,q.aJ,(q.bad+1),.aI,q.ao⟩:aw) l_ t).2=0)) with f6 | f6
             · have Pp:=HI f6
               have ev:=pk (d+15) ff ((AV.agg [(AV.str q.name),(Zi q.ai),(Zi q.af),(Zi q.aH),(Zi q.aJ),(Zi q.bad),q.aA])::nI::(Zi t)::(Zi bO)::ka 141) h .ret D6 (NN b9 (fun i=>(Pt i))<|CC<|MM (aL 26 0 (AV.agg [(AV.str q.name),(Zi q.ai),(Zi q.af),(Zi q.aH),(Zi q.aJ),(Zi q.bad),q.aA]) aO k!)<|CC<|EE k2<|CC<|BC f0<|BV f0 As<|BV f0 (dZ 3 false true .i64 ((l_.length:Nat):Int) 0)<|VV (bJ (a:=some (AV.bool true)) (b:=some (AV.bool (decide (((l_.length:Nat):Int)=0)))) f0)<|BM f1 (aL 26 0 (AV.agg [(AV.str q.name),(Zi q.ai),(Zi q.af),(Zi q.aH),(Zi q.aJ),(Zi q.bad),q.aA]) aO k!)<|CN 2<|EE si<|CN 6<|VV (gL 31 false true .i64 (ay q l_ t).2 0)<|BB f2<|CN 2<|VV LD<|VV (show bU env .rem 3 false false (some (Zi bO)) (some (Zn l_.length))=some (Zi (Int.tmod bO ((l_.length:Nat):Int))) from cy o! rfl)<|CC<|VV pw<|CN 2<|VV A'<|VV (show bU env .rem 3 false false (some (Zi (IntKind.i64.wrap ((Int.tmod bO ((l_.length:Nat):Int))+((l_.length:Nat):Int))))) (some (Zn l_.length))=some (Zi b8) from cy o! je.symm)<|CC<|NN sF (fun i=>(AV.slice i 0 0 0 false))<|CN 2<|QQ Ba<|CN 2<|VV (oU 3 false true RW)<|QQ Bb<|PP (show bf env vg #[27,27] (AV.slice h6.nx 0 0 0 false) M4=some (z21,uX) from nO)<|PP (show bf env uX #[27,27] z21 M5=some (z24,oC) from nQ)<|CC<|HH (show ∃o,vg.get h6.nx=some o∧aR.same o (aR.cells [] 43 false)=true from ⟨_,rj,by simp [aR.same,cg,AV.same]⟩)<|MM (aL 26 0 (AV.agg [(AV.str q.name),(Zi q.ai),(Zi q.af),(Zi q.aH),(Zi q.aJ),(Zi q.bad),q.aA]) (cD _ _ (dM.a _ _ aO)) k!)<|CN 2<|EE sG<|CN 6<|VV (gL 31 false true .i64 (ay q ((([]:List aB)++(l_.take b8.toNat))++(l_.drop (b8+1).toNat)) t).2 0)<|CC<|BC f3<|BC f3<|BB f3<|EE O4<|BC f3<|VV (bJ (a:=some (AV.bool true)) (b:=some (AV.bool (!(bR (ay q l_ t).1 (ay q ((([]:List aB)++(l_.take b8.toNat))++(l_.drop (b8+1).toNat)) t).1)))) f3)<|BM f4 (aL 26 0 (AV.agg [(AV.str q.name),(Zi q.ai),(Zi q.af),(Zi q.aH),(Zi q.aJ),(Zi q.bad),q.aA]) (cW.a _ _ (cD _ _ (dM.a _ _ aO))) k!)<|NN xp (fun i=>(Pt i))<|SS xq<|CC<|MM (aL 3 5 (Zi q.bad) (cP _ _ o! (dV _ _ (cW.a _ _ (cD _ _ (dM.a _ _ aO))))) k!)<|CC<|MM (aL 24 6 q.aA (cP _ _ o! (dV _ _ (cW.a _ _ (cD _ _ (dM.a _ _ aO))))) k!)<|VV Gv<|VV (cS 3 false false .i64 q.bad ((q.ao.length:Nat):Int))<|BC f5<|MM (aL 3 5 (Zi q.bad) (cP _ _ o! (dV _ _ (cW.a _ _ (cD _ _ (dM.a _ _ aO))))) k!)<|VV (oU 3 false true w36)<|CC<|SS Gw<|MM (aL 26 0 (AV.agg [(AV.str q.name),(Zi q.ai),(Zi q.af),(Zi q.aH),(Zi q.aJ),(Zi (q.bad+1)),q.aA]) Gy k!)<|CN 2<|EE Cc<|CN 6<|VV (gL 31 false true .i64 (ay (⟨q.name,q.ai,q.af,q.aH,q.aJ,(q.bad+1),.aI,q.ao⟩:aw) l_ t).2 0)<|CC<|BB f6<|BB f6<|BB f6<|BV f6 (AI true f6)<|TT<|CC<|ZZ) k!
               subst je
               have e:fh q l_ t bO=false:=by simp only[fh,f0,f1,f2,f3,f4,f5,f6,ax,ar]
               rw[e]
               exact aF rfl (bu Try.func4 hJ k! (.inr rfl) ev k!) Kc rfl
             · have Pp:=HJ f6
               have k41:=py (d:=d+14) (ay q l_ t).1 (ay (⟨q.name,q.ai,q.af,q.aH,q.aJ,(q.bad+1),.aI,q.ao⟩:aw) l_ t).1 (B'.has GB) II GA
               rcases Bool.eq_false_or_eq_true (!(bR (ay q l_ t).1 (ay (⟨q.name,q.ai,q.af,q.aH,q.aJ,(q.bad+1),.aI,q.ao⟩:aw) l_ t).1)) with f7 | f7
               · have ev:=pk (d+15) ff ((AV.agg [(AV.str q.name),(Zi q.ai),(Zi q.af),(Zi q.aH),(Zi q.aJ),(Zi q.bad),q.aA])::nI::(Zi t)::(Zi bO)::ka 141) h .ret D6 (NN b9 (fun i=>(Pt i))<|CC<|MM (aL 26 0 (AV.agg [(AV.str q.name),(Zi q.ai),(Zi q.af),(Zi q.aH),(Zi q.aJ),(Zi q.bad),q.aA]) aO k!)<|CC<|EE k2<|CC<|BC f0<|BV f0 As<|BV f0 (dZ 3 false true .i64 ((l_.length:Nat):Int) 0)<|VV (bJ (a:=some (AV.bool true)) (b:=some (AV.bool (decide (((l_.length:Nat):Int)=0)))) f0)<|BM f1 (aL 26 0 (AV.agg [(AV.str q.name),(Zi q.ai),(Zi q.af),(Zi q.aH),(Zi q.aJ),(Zi q.bad),q.aA]) aO k!)<|CN 2<|EE si<|CN 6<|VV (gL 31 false true .i64 (ay q l_ t).2 0)<|BB f2<|CN 2<|VV LD<|VV (show bU env .rem 3 false false (some (Zi bO)) (some (Zn l_.length))=some (Zi (Int.tmod bO ((l_.length:Nat):Int))) from cy o! rfl)<|CC<|VV pw<|CN 2<|VV A'<|VV (show bU env .rem 3 false false (some (Zi (IntKind.i64.wrap ((Int.tmod bO ((l_.length:Nat):Int))+((l_.length:Nat):Int))))) (some (Zn l_.length))=some (Zi b8) from cy o! je.symm)<|CC<|NN sF (fun i=>(AV.slice i 0 0 0 false))<|CN 2<|QQ Ba<|CN 2<|VV (oU 3 false true RW)<|QQ Bb<|PP (show bf env vg #[27,27] (AV.slice h6.nx 0 0 0 false) M4=some (z21,uX) from nO)<|PP (show bf env uX #[27,27] z21 M5=some (z24,oC) from nQ)<|CC<|HH (show ∃o,vg.get h6.nx=some o∧aR.same o (aR.cells [] 43 false)=true from ⟨_,rj,by simp [aR.same,cg,AV.same]⟩)<|MM (aL 26 0 (AV.agg [(AV.str q.name),(Zi q.ai),(Zi q.af),(Zi q.aH),(Zi q.aJ),(Zi q.bad),q.aA]) (cD _ _ (dM.a _ _ aO)) k!)<|CN 2<|EE sG<|CN 6<|VV (gL 31 false true .i64 (ay q ((([]:List aB)++(l_.take b8.toNat))++(l_.drop (b8+1).toNat)) t).2 0)<|CC<|BC f3<|BC f3<|BB f3<|EE O4<|BC f3<|VV (bJ (a:=some (AV.bool true)) (b:=some (AV.bool (!(bR (ay q l_ t).1 (ay q ((([]:List aB)++(l_.take b8.toNat))++(l_.drop (b8+1).toNat)) t).1)))) f3)<|BM f4 (aL 26 0 (AV.agg [(AV.str q.name),(Zi q.ai),(Zi q.af),(Zi q.aH),(Zi q.aJ),(Zi q.bad),q.aA]) (cW.a _ _ (cD _ _ (dM.a _ _ aO))) k!)<|NN xp (fun i=>(Pt i))<|SS xq<|CC<|MM (aL 3 5 (Zi q.bad) (cP _ _ o! (dV _ _ (cW.a _ _ (cD _ _ (dM.a _ _ aO))))) k!)<|CC<|MM (aL 24 6 q.aA (cP _ _ o! (dV _ _ (cW.a _ _ (cD _ _ (dM.a _ _ aO))))) k!)<|VV Gv<|VV (cS 3 false false .i64 q.bad ((q.ao.length:Nat):Int))<|BC f5<|MM (aL 3 5 (Zi q.bad) (cP _ _ o! (dV _ _ (cW.a _ _ (cD _ _ (dM.a _ _ aO))))) k!)<|VV (oU 3 false true w36)<|CC<|SS Gw<|MM (aL 26 0 (AV.agg [(AV.str q.name),(Zi q.ai),(Zi q.af),(Zi q.aH),(Zi q.aJ),(Zi (q.bad+1)),q.aA]) Gy k!)<|CN 2<|EE Cc<|CN 6<|VV (gL 31 false true .i64 (ay (⟨q.name,q.ai,q.af,q.aH,q.aJ,(q.bad+1),.aI,q.ao⟩:aw) l_ t).2 0)<|CC<|BC f6<|BC f6<|BB f6<|EE k41<|BC f6<|VV (bJ (a:=some (AV.bool true)) (b:=some (AV.bool (!(bR (ay q l_ t).1 (ay (⟨q.name,q.ai,q.af,q.aH,q.aJ,(q.bad+1),.aI,q.ao⟩:aw) l_ t).1)))) f6)<|BC f7<|ZZ) k!
                 subst je
                 have e:fh q l_ t bO=false:=by simp only[fh,f0,f1,f2,f3,f4,f5,f6,f7,ax,ar]
                 rw[e]
                 exact aF rfl (bu Try.func4 hJ k! (.inr rfl) ev k!) Kc rfl
               · obtain ⟨p44,q45,VU⟩:=gN.elem (i:=b8.toNat) o!
                 have Yk:dL env (some (.slice 43)) (some nI) (some (Zi b8))=some (AV.ptr p44 q45):=by rw[show (b8:Int)=((b8.toNat:Nat):Int) by omega];exact VU
                 have Ym:bw env D6 3 (AV.ptr p44 (q45+0))=some (Zi (l_.g b8.toNat).aC):=(gN.has Kc).part (t:=3) (j:=0) o! VU k! rfl
                 obtain ⟨yj,QL,Ke,abQ,lk,vl⟩:=jS GA (aR.cells [(AV.str []),(Zi 0),(Zi 0),(Zi 0),(Zi 0),(Zi 0),AV.aI] 26 false)
                 have QM:Has h yj:=Kc.trans vl
                 have Az:Has h6 yj:=GB.trans vl
                 have wh:Has oC yj:=LM.trans vl
                 have wj:Has xn yj:=LN.trans vl
                 have LP:Has LI yj:=LO.trans vl
                 have LQ:Has D6 yj:=vl
                 obtain ⟨Kf,QN,VW,afh,abR,pz⟩:=sa (t:=26) (n:=7) (i:=D6.nx) (L:=[(AV.str q.name),(Zi q.ai),(Zi q.af),(Zi q.aH),(Zi q.aJ),(Zi q.bad),q.aA]) Ke lk k! rfl rfl (by simp only[AV.cells,List.all_cons,List.all_nil,Bool.and_true,Bool.and_self,ib,fL,ic,ie,ei,kR,kS,kT,kU,kV,ig,Yj])
                 have abS:Has h Kf:=Has.bG QM pz cj o!
                 have QO:Has h6 Kf:=Has.bG Az pz js o!
                 have LS:Has oC Kf:=Has.bG wh pz rh o!
                 have LU:Has xn Kf:=Has.bG wj pz sH o!
                 have LV:Has LI Kf:=Has.bG LP pz Kb o!
                 have LW:Has D6 Kf:=Has.bG LQ pz GA o!
                 obtain ⟨QP,QR,abT,afi,abU,rk⟩:=jS VW (aR.cells [] 45 false)
                 have Cd:Has h QP:=abS.trans rk
                 have QS:Has h6 QP:=QO.trans rk
                 have LX:Has oC QP:=LS.trans rk
                 have LY:Has xn QP:=LU.trans rk
                 have LZ:Has LI QP:=LV.trans rk
                 have L6:Has D6 QP:=LW.trans rk
                 have Ce:Has Kf QP:=rk
                 obtain ⟨z51,L7,IJ,abV,afj,afk,abW,pA⟩:=ba.W3 (tys:= #[24,24]) (l:=([]:List aE)) (m:=q.ao) (x:=q.aA) abT VW Ce o! (.inl ⟨.inr ⟨_,rfl,(Nat.le_refl _),abU⟩,rfl⟩:ba Kf QP (AV.slice Kf.nx 0 0 0 false) ([]:List aE)) (jH.2.has Cd).jD (jH.2.has Cd).first (jw (jH.2.has Cd) fun y hy=>aE.sc ((jH.2.has Cd).Dp y hy)) (by first | omega | (simp<;>omega)) rfl rfl k! k! (bytes:=40) k! (z0:=(AV.agg [(AV.str []),(Zi 0),(Zi 0),(Zi 0)])) k! rfl (by decide)
                 have abX:Has h L7:=Cd.trans pA
                 have QT:Has h6 L7:=QS.trans pA
                 have L8:Has oC L7:=LX.trans pA
                 have L9:Has xn L7:=LY.trans pA
                 have L_:Has LI L7:=LZ.trans pA
                 have Ma:Has D6 L7:=L6.trans pA
                 have YV:Has Kf L7:=Ce.trans pA
                 have DW:∀y∈(([]:List aE)++q.ao),az.ok L7 y:=Dq pA (nE (fun y hy=>by cases hy) (jH.2.has Cd).Dp)
                 have IK:aQ L7 z51 (([]:List aE)++q.ao):=ba.rows abW (by first | omega | (simp<;>omega)) DW
                 have abY:=IK.small
                 obtain ⟨e53,aeo,QU⟩:=rU Kf.nx
                 have abZ:Tidy e53:=fun k w g=>by rw[QU] at g;cases g
                 have Uw:∀h_:au,Has e53 h_:=fun h_ k w g=>by rw[QU] at g;cases g
                 have QV:ba e53 L7 z51 (([]:List aE)++q.ao):=ba.le abW o!
                 have YW:List.length (([]:List aE)++q.ao)=_:=List.length_append
                 have YX:List.length ([]:List aE)=0:=rfl
                 have afY:AV.scalar z51=true:=IK.scalar
                 obtain ⟨D7,QW,VX,afl,mP,tF⟩:=W7 (t:=24) (i:=D6.nx) (o:=6) (v:=z51) (N:=[(AV.str q.name),(Zi q.ai),(Zi q.af),(Zi q.aH),(Zi q.aJ),(Zi q.bad),z51]) abV (pA _ _ (rk _ _ abR)) k! IK.scalar k! k!
                 have ab0:Has h D7:=Has.bG abX tF cj o!
                 have QX:Has h6 D7:=Has.bG QT tF js o!
                 have Mb:Has oC D7:=Has.bG L8 tF rh o!
                 have Mc:Has xn D7:=Has.bG L9 tF sH o!
                 have Md:Has LI D7:=Has.bG L_ tF Kb o!
                 have Me:Has D6 D7:=Has.bG Ma tF GA o!
                 have Yn:ba e53 D7 z51 (([]:List aE)++q.ao):=ba.kept QV tF (ba.Tw QV o!)
                 have QY:∀y∈(([]:List aE)++q.ao),az.ok D7 y:=(cR (D:=aE) (h':=D7) DW)
                 have QZ:aQ D7 z51 (([]:List aE)++q.ao):=ba.rows Yn (by first | omega | (simp only[List.length_append,List.length_nil];omega)) QY
                 obtain ⟨p58,Q0,acB,acC⟩:=ba.ix VX Yn (i:=((l_.g b8.toNat).aC).toNat) (by first | omega | (simp<;>omega))
                 have Mf:dL env (some (.slice 45)) (some z51) (some (Zi (l_.g b8.toNat).aC))=some (AV.ptr p58 ((l_.g b8.toNat).aC.toNat*4)):=by rw[show (((l_.g b8.toNat).aC):Int)=(((l_.g b8.toNat).aC.toNat:Nat):Int) by omega];exact Q0
                 have Mg:bw env D7 3 (AV.ptr p58 (((l_.g b8.toNat).aC.toNat*4)+1))=some (Zi ((([]:List aE)++q.ao).g (l_.g b8.toNat).aC.toNat).acc):=QZ.part (t:=3) (j:=1) o! Q0 k! rfl
                 have Ux:aE.ok D7 ((([]:List aE)++q.ao).g (l_.g b8.toNat).aC.toNat):=(cR (D:=aE) (h':=D7) (cR (D:=aE) (h':=D7) DW)) _ (jT (by first | omega | (simp only[List.length_set,List.length_append,List.length_nil,List.nil_append];omega)))
                 have Q1:az.ok D7 ({((([]:List aE)++q.ao).g (l_.g b8.toNat).aC.toNat) with acc:=(IntKind.i64.wrap (Int.tdiv ((([]:List aE)++q.ao).g (l_.g b8.toNat).aC.toNat).acc 2))}:aE):=Ux
                 obtain ⟨RX,Q2,ab1,afm,aep,afn,pB⟩:=ba.X7 (x:=({((([]:List aE)++q.ao).g (l_.g b8.toNat).aC.toNat) with acc:=(IntKind.i64.wrap (Int.tdiv ((([]:List aE)++q.ao).g (l_.g b8.toNat).aC.toNat).acc 2))}:aE)) (v:=(Zi (IntKind.i64.wrap (Int.tdiv ((([]:List aE)++q.ao).g (l_.g b8.toNat).aC.toNat).acc 2)))) (t:=3) (j:=1) VX abZ (Uw D7) Yn (by first | omega | (simp only[List.length_set,List.length_append,List.length_nil,List.nil_append];omega)) Q0 k! rfl rfl (by decide) rfl
                 have VY:Has h RX:=Has.mO ab0 pB cj o!
                 have Q3:Has h6 RX:=Has.mO QX pB js o!
                 have Mh:Has oC RX:=Has.mO Mb pB rh o!
                 have Mi:Has xn RX:=Has.mO Mc pB sH o!
                 have Mj:Has LI RX:=Has.mO Md pB Kb o!
                 have Mk:Has D6 RX:=Has.mO Me pB GA o!
                 have Uy:∀y∈((([]:List aE)++q.ao).set (l_.g b8.toNat).aC.toNat ({((([]:List aE)++q.ao).g (l_.g b8.toNat).aC.toNat) with acc:=(IntKind.i64.wrap (Int.tdiv ((([]:List aE)++q.ao).g (l_.g b8.toNat).aC.toNat).acc 2))}:aE)),az.ok RX y:=cR (D:=aE) (HM (cR (D:=aE) (h':=D7) (cR (D:=aE) (h':=D7) DW)) Q1)
                 have DX:aQ RX z51 ((([]:List aE)++q.ao).set (l_.g b8.toNat).aC.toNat ({((([]:List aE)++q.ao).g (l_.g b8.toNat).aC.toNat) with acc:=(IntKind.i64.wrap (Int.tdiv ((([]:List aE)++q.ao).g (l_.g b8.toNat).aC.toNat).acc 2))}:aE)):=ba.rows aep (by first | omega | (simp only[List.length_set,List.length_append,List.length_nil,List.nil_append];omega)) Uy
                 have YY:=DX.small
                 have acD:((([]:List aE)++q.ao).set (l_.g b8.toNat).aC.toNat ({((([]:List aE)++q.ao).g (l_.g b8.toNat).aC.toNat) with acc:=(IntKind.i64.wrap (Int.tdiv ((([]:List aE)++q.ao).g (l_.g b8.toNat).aC.toNat).acc 2))}:aE)).length=(([]:List aE)++q.ao).length:=List.length_set
                 have YZ:AV.same 20 z51 z51=true:=DX.same 19
                 obtain ⟨z68,M6,Kg,vm,⟨IL,Uz⟩⟩:=j9 (d:=d+1) (⟨q.name,q.ai,q.af,q.aH,q.aJ,q.bad,z51,((([]:List aE)++q.ao).set (l_.g b8.toNat).aC.toNat ({((([]:List aE)++q.ao).g (l_.g b8.toNat).aC.toNat) with acc:=(IntKind.i64.wrap (Int.tdiv ((([]:List aE)++q.ao).g (l_.g b8.toNat).aC.toNat).acc 2))}:aE))⟩:aw) l_ t (⟨jH.1,DX⟩) (gN.has VY) (by first | omega | exact rV (by assumption) | (simp only[List.length_append,List.length_nil,List.length_take,List.length_drop];omega)) ab1
                 rw[px] at Kg IL Uz
                 have ab2:=vm.y
                 have afo:RX.nx≤M6.nx:=vm.n
                 have Q4:Has h M6:=VY.trans vm.a
                 have Q5:Has h6 M6:=Q3.trans vm.a
                 have Y0:Has oC M6:=Mh.trans vm.a
                 have Y1:Has xn M6:=Mi.trans vm.a
                 have Y2:Has LI M6:=Mj.trans vm.a
                 have Y3:Has D6 M6:=Mk.trans vm.a
                 have Y4:Has RX M6:=vm.a
                 have aeq:=IL.small
                 rcases Bool.eq_false_or_eq_true (decide ((ay (⟨q.name,q.ai,q.af,q.aH,q.aJ,q.bad,.aI,((([]:List aE)++q.ao).set (l_.g b8.toNat).aC.toNat ({((([]:List aE)++q.ao).g (l_.g b8.toNat).aC.toNat) with acc:=(IntKind.i64.wrap (Int.tdiv ((([]:List aE)++q.ao).g (l_.g b8.toNat).aC.toNat).acc 2))}:aE))⟩:aw) l_ t).2=0)) with f8 | f8
                 · have aer:=of_decide_eq_true f8
                   have k70:=py (d:=d+14) (ay (⟨q.name,q.ai,q.af,q.aH,q.aJ,q.bad,.aI,((([]:List aE)++q.ao).set (l_.g b8.toNat).aC.toNat ({((([]:List aE)++q.ao).g (l_.g b8.toNat).aC.toNat) with acc:=(IntKind.i64.wrap (Int.tdiv ((([]:List aE)++q.ao).g (l_.g b8.toNat).aC.toNat).acc 2))}:aE))⟩:aw) l_ t).1 (ay q l_ t).1 IL (B'.has Q5) ab2
                   rcases Bool.eq_false_or_eq_true (bR (ay (⟨q.name,q.ai,q.af,q.aH,q.aJ,q.bad,.aI,((([]:List aE)++q.ao).set (l_.g b8.toNat).aC.toNat ({((([]:List aE)++q.ao).g (l_.g b8.toNat).aC.toNat) with acc:=(IntKind.i64.wrap (Int.tdiv ((([]:List aE)++q.ao).g (l_.g b8.toNat).aC.toNat).acc 2))}:aE))⟩:aw) l_ t).1 (ay q l_ t).1) with f9 | f9
                   · have k72:=vh (d:=d+14) (h:=M6)
                     have ev:=pk (d+15) ff ((AV.agg [(AV.str q.name),(Zi q.ai),(Zi q.af),(Zi q.aH),(Zi q.aJ),(Zi q.bad),q.aA])::nI::(Zi t)::(Zi bO)::ka 141) h .ret M6 (NN b9 (fun i=>(Pt i))<|CC<|MM (aL 26 0 (AV.agg [(AV.str q.name),(Zi q.ai),(Zi q.af),(Zi q.aH),(Zi q.aJ),(Zi q.bad),q.aA]) aO k!)<|CC<|EE k2<|CC<|BC f0<|BV f0 As<|BV f0 (dZ 3 false true .i64 ((l_.length:Nat):Int) 0)<|VV (bJ (a:=some (AV.bool true)) (b:=some (AV.bool (decide (((l_.length:Nat):Int)=0)))) f0)<|BM f1 (aL 26 0 (AV.agg [(AV.str q.name),(Zi q.ai),(Zi q.af),(Zi q.aH),(Zi q.aJ),(Zi q.bad),q.aA]) aO k!)<|CN 2<|EE si<|CN 6<|VV (gL 31 false true .i64 (ay q l_ t).2 0)<|BB f2<|CN 2<|VV LD<|VV (show bU env .rem 3 false false (some (Zi bO)) (some (Zn l_.length))=some (Zi (Int.tmod bO ((l_.length:Nat):Int))) from cy o! rfl)<|CC<|VV pw<|CN 2<|VV A'<|VV (show bU env .rem 3 false false (some (Zi (IntKind.i64.wrap ((Int.tmod bO ((l_.length:Nat):Int))+((l_.length:Nat):Int))))) (some (Zn l_.length))=some (Zi b8) from cy o! je.symm)<|CC<|NN sF (fun i=>(AV.slice i 0 0 0 false))<|CN 2<|QQ Ba<|CN 2<|VV (oU 3 false true RW)<|QQ Bb<|PP (show bf env vg #[27,27] (AV.slice h6.nx 0 0 0 false) M4=some (z21,uX) from nO)<|PP (show bf env uX #[27,27] z21 M5=some (z24,oC) from nQ)<|CC<|HH (show ∃o,vg.get h6.nx=some o∧aR.same o (aR.cells [] 43 false)=true from ⟨_,rj,by simp [aR.same,cg,AV.same]⟩)<|MM (aL 26 0 (AV.agg [(AV.str q.name),(Zi q.ai),(Zi q.af),(Zi q.aH),(Zi q.aJ),(Zi q.bad),q.aA]) (cD _ _ (dM.a _ _ aO)) k!)<|CN 2<|EE sG<|CN 6<|VV (gL 31 false true .i64 (ay q ((([]:List aB)++(l_.take b8.toNat))++(l_.drop (b8+1).toNat)) t).2 0)<|CC<|BC f3<|BC f3<|BB f3<|EE O4<|BC f3<|VV (bJ (a:=some (AV.bool true)) (b:=some (AV.bool (!(bR (ay q l_ t).1 (ay q ((([]:List aB)++(l_.take b8.toNat))++(l_.drop (b8+1).toNat)) t).1)))) f3)<|BM f4 (aL 26 0 (AV.agg [(AV.str q.name),(Zi q.ai),(Zi q.af),(Zi q.aH),(Zi q.aJ),(Zi q.bad),q.aA]) (cW.a _ _ (cD _ _ (dM.a _ _ aO))) k!)<|NN xp (fun i=>(Pt i))<|SS xq<|CC<|MM (aL 3 5 (Zi q.bad) (cP _ _ o! (dV _ _ (cW.a _ _ (cD _ _ (dM.a _ _ aO))))) k!)<|CC<|MM (aL 24 6 q.aA (cP _ _ o! (dV _ _ (cW.a _ _ (cD _ _ (dM.a _ _ aO))))) k!)<|VV Gv<|VV (cS 3 false false .i64 q.bad ((q.ao.length:Nat):Int))<|BC f5<|MM (aL 3 5 (Zi q.bad) (cP _ _ o! (dV _ _ (cW.a _ _ (cD _ _ (dM.a _ _ aO))))) k!)<|VV (oU 3 false true w36)<|CC<|SS Gw<|MM (aL 26 0 (AV.agg [(AV.str q.name),(Zi q.ai),(Zi q.af),(Zi q.aH),(Zi q.aJ),(Zi (q.bad+1)),q.aA]) Gy k!)<|CN 2<|EE Cc<|CN 6<|VV (gL 31 false true .i64 (ay (⟨q.name,q.ai,q.af,q.aH,q.aJ,(q.bad+1),.aI,q.ao⟩:aw) l_ t).2 0)<|CC<|BC f6<|BC f6<|BB f6<|EE k41<|BC f6<|VV (bJ (a:=some (AV.bool true)) (b:=some (AV.bool (!(bR (ay q l_ t).1 (ay (⟨q.name,q.ai,q.af,q.aH,q.aJ,(q.bad+1),.aI,q.ao⟩:aw) l_ t).1)))) f6)<|BB f7<|CN 2<|VV Yk<|CC<|MM Ym<|CC<|MM (aL 26 0 (AV.agg [(AV.str q.name),(Zi q.ai),(Zi q.af),(Zi q.aH),(Zi q.aJ),(Zi q.bad),q.aA]) (ox.a _ _ (nR _ _ o! (cP _ _ o! (dV _ _ (cW.a _ _ (cD _ _ (dM.a _ _ aO))))))) k!)<|NN QL (fun i=>(Pt i))<|SS QN<|NN QR (fun i=>(AV.slice i 0 0 0 false))<|CC<|MM (aL 24 6 q.aA (rk _ _ (pz _ _ o! (vl _ _ (ox.a _ _ (nR _ _ o! (cP _ _ o! (dV _ _ (cW.a _ _ (cD _ _ (dM.a _ _ aO)))))))))) k!)<|PP (show bf env QP #[24,24] (AV.slice Kf.nx 0 0 0 false) q.aA=some (z51,L7) from IJ)<|CC<|SS QW<|CC<|MM (aL 24 6 z51 mP k!)<|CN 2<|MM (aL 24 6 z51 mP k!)<|CC<|VV Mf<|CC<|MM Mg<|CC<|VV Mf<|CC<|SS Q2<|HH (aL 24 6 z51 mP k!)<|HH YZ<|HH (aL 24 6 z51 mP k!)<|HH YZ<|HH Mg<|HH (show AV.same 20 (Zi ((([]:List aE)++q.ao).g (l_.g b8.toNat).aC.toNat).acc) (Zi ((([]:List aE)++q.ao).g (l_.g b8.toNat).aC.toNat).acc)=true from aN 19 _ _)<|MM (aL 26 0 (AV.agg [(AV.str q.name),(Zi q.ai),(Zi q.af),(Zi q.aH),(Zi q.aJ),(Zi q.bad),z51]) (pB _ _ o! mP) k!)<|CN 2<|EE Kg<|CN 6<|VV (dZ 31 false true .i64 (ay (⟨q.name,q.ai,q.af,q.aH,q.aJ,q.bad,.aI,((([]:List aE)++q.ao).set (l_.g b8.toNat).aC.toNat ({((([]:List aE)++q.ao).g (l_.g b8.toNat).aC.toNat) with acc:=(IntKind.i64.wrap (Int.tdiv ((([]:List aE)++q.ao).g (l_.g b8.toNat).aC.toNat).acc 2))}:aE))⟩:aw) l_ t).2 0)<|CC<|BC f8<|BC f8<|BB f8<|EE k70<|VV (jG (bR (ay (⟨q.name,q.ai,q.af,q.aH,q.aJ,q.bad,.aI,((([]:List aE)++q.ao).set (l_.g b8.toNat).aC.toNat ({((([]:List aE)++q.ao).g (l_.g b8.toNat).aC.toNat) with acc:=(IntKind.i64.wrap (Int.tdiv ((([]:List aE)++q.ao).g (l_.g b8.toNat).aC.toNat).acc 2))}:aE))⟩:aw) l_ t).1 (ay q l_ t).1) false f8)<|CC<|BB f9<|EE k72<|VV (jG true false f9)<|CC<|ZZ) k!
                     subst je
                     have e:fh q l_ t bO=true:=by simp only[fh,f0,f1,f2,f3,f4,f5,f6,f7,f8,f9,ax,ar]
                     rw[e]
                     exact aF rfl (bu Try.func4 hJ k! (.inr rfl) ev k!) Q4 rfl
                   · have ev:=pk (d+15) ff ((AV.agg [(AV.str q.name),(Zi q.ai),(Zi q.af),(Zi q.aH),(Zi q.aJ),(Zi q.bad),q.aA])::nI::(Zi t)::(Zi bO)::ka 141) h .ret M6 (NN b9 (fun i=>(Pt i))<|CC<|MM (aL 26 0 (AV.agg [(AV.str q.name),(Zi q.ai),(Zi q.af),(Zi q.aH),(Zi q.aJ),(Zi q.bad),q.aA]) aO k!)<|CC<|EE k2<|CC<|BC f0<|BV f0 As<|BV f0 (dZ 3 false true .i64 ((l_.length:Nat):Int) 0)<|VV (bJ (a:=some (AV.bool true)) (b:=some (AV.bool (decide (((l_.length:Nat):Int)=0)))) f0)<|BM f1 (aL 26 0 (AV.agg [(AV.str q.name),(Zi q.ai),(Zi q.af),(Zi q.aH),(Zi q.aJ),(Zi q.bad),q.aA]) aO k!)<|CN 2<|EE si<|CN 6<|VV (gL 31 false true .i64 (ay q l_ t).2 0)<|BB f2<|CN 2<|VV LD<|VV (show bU env .rem 3 false false (some (Zi bO)) (some (Zn l_.length))=some (Zi (Int.tmod bO ((l_.length:Nat):Int))) from cy o! rfl)<|CC<|VV pw<|CN 2<|VV A'<|VV (show bU env .rem 3 false false (some (Zi (IntKind.i64.wrap ((Int.tmod bO ((l_.length:Nat):Int))+((l_.length:Nat):Int))))) (some (Zn l_.length))=some (Zi b8) from cy o! je.symm)<|CC<|NN sF (fun i=>(AV.slice i 0 0 0 false))<|CN 2<|QQ Ba<|CN 2<|VV (oU 3 false true RW)<|QQ Bb<|PP (show bf env vg #[27,27] (AV.slice h6.nx 0 0 0 false) M4=some (z21,uX) from nO)<|PP (show bf env uX #[27,27] z21 M5=some (z24,oC) from nQ)<|CC<|HH (show ∃o,vg.get h6.nx=some o∧aR.same o (aR.cells [] 43 false)=true from ⟨_,rj,by simp [aR.same,cg,AV.same]⟩)<|MM (aL 26 0 (AV.agg [(AV.str q.name),(Zi q.ai),(Zi q.af),(Zi q.aH),(Zi q.aJ),(Zi q.bad),q.aA]) (cD _ _ (dM.a _ _ aO)) k!)<|CN 2<|EE sG<|CN 6<|VV (gL 31 false true .i64 (ay q ((([]:List aB)++(l_.take b8.toNat))++(l_.drop (b8+1).toNat)) t).2 0)<|CC<|BC f3<|BC f3<|BB f3<|EE O4<|BC f3<|VV (bJ (a:=some (AV.bool true)) (b:=some (AV.bool (!(bR (ay q l_ t).1 (ay q ((([]:List aB)++(l_.take b8.toNat))++(l_.drop (b8+1).toNat)) t).1)))) f3)<|BM f4 (aL 26 0 (AV.agg [(AV.str q.name),(Zi q.ai),(Zi q.af),(Zi q.aH),(Zi q.aJ),(Zi q.bad),q.aA]) (cW.a _ _ (cD _ _ (dM.a _ _ aO))) k!)<|NN xp (fun i=>(Pt i))<|SS xq<|CC<|MM (aL 3 5 (Zi q.bad) (cP _ _ o! (dV _ _ (cW.a _ _ (cD _ _ (dM.a _ _ aO))))) k!)<|CC<|MM (aL 24 6 q.aA (cP _ _ o! (dV _ _ (cW.a _ _ (cD _ _ (dM.a _ _ aO))))) k!)<|VV Gv<|VV (cS 3 false false .i64 q.bad ((q.ao.length:Nat):Int))<|BC f5<|MM (aL 3 5 (Zi q.bad) (cP _ _ o! (dV _ _ (cW.a _ _ (cD _ _ (dM.a _ _ aO))))) k!)<|VV (oU 3 false true w36)<|CC<|SS Gw<|MM (aL 26 0 (AV.agg [(AV.str q.name),(Zi q.ai),(Zi q.af),(Zi q.aH),(Zi q.aJ),(Zi (q.bad+1)),q.aA]) Gy k!)<|CN 2<|EE Cc<|CN 6<|VV (gL 31 false true .i64 (ay (⟨q.name,q.ai,q.af,q.aH,q.aJ,(q.bad+1),.aI,q.ao⟩:aw) l_ t).2 0)<|CC<|BC f6<|BC f6<|BB f6<|EE k41<|BC f6<|VV (bJ (a:=some (AV.bool true)) (b:=some (AV.bool (!(bR (ay q l_ t).1 (ay (⟨q.name,q.ai,q.af,q.aH,q.aJ,(q.bad+1),.aI,q.ao⟩:aw) l_ t).1)))) f6)<|BB f7<|CN 2<|VV Yk<|CC<|MM Ym<|CC<|MM (aL 26 0 (AV.agg [(AV.str q.name),(Zi q.ai),(Zi q.af),(Zi q.aH),(Zi q.aJ),(Zi q.bad),q.aA]) (ox.a _ _ (nR _ _ o! (cP _ _ o! (dV _ _ (cW.a _ _ (cD _ _ (dM.a _ _ aO))))))) k!)<|NN QL (fun i=>(Pt i))<|SS QN<|NN QR (fun i=>(AV.slice i 0 0 0 false))<|CC<|MM (aL 24 6 q.aA (rk _ _ (pz _ _ o! (vl _ _ (ox.a _ _ (nR _ _ o! (cP _ _ o! (dV _ _ (cW.a _ _ (cD _ _ (dM.a _ _ aO)))))))))) k!)<|PP (show bf env QP #[24,24] (AV.slice Kf.nx 0 0 0 false) q.aA=some (z51,L7) from IJ)<|CC<|SS QW<|CC<|MM (aL 24 6 z51 mP k!)<|CN 2<|MM (aL 24 6 z51 mP k!)<|CC<|VV Mf<|CC<|MM Mg<|CC<|VV Mf<|CC<|SS Q2<|HH (aL 24 6 z51 mP k!)<|HH YZ<|HH (aL 24 6 z51 mP k!)<|HH YZ<|HH Mg<|HH (show AV.same 20 (Zi ((([]:List aE)++q.ao).g (l_.g b8.toNat).aC.toNat).acc) (Zi ((([]:List aE)++q.ao).g (l_.g b8.toNat).aC.toNat).acc)=true from aN 19 _ _)<|MM (aL 26 0 (AV.agg [(AV.str q.name),(Zi q.ai),(Zi q.af),(Zi q.aH),(Zi q.aJ),(Zi q.bad),z51]) (pB _ _ o! mP) k!)<|CN 2<|EE Kg<|CN 6<|VV (dZ 31 false true .i64 (ay (⟨q.name,q.ai,q.af,q.aH,q.aJ,q.bad,.aI,((([]:List aE)++q.ao).set (l_.g b8.toNat).aC.toNat ({((([]:List aE)++q.ao).g (l_.g b8.toNat).aC.toNat) with acc:=(IntKind.i64.wrap (Int.tdiv ((([]:List aE)++q.ao).g (l_.g b8.toNat).aC.toNat).acc 2))}:aE))⟩:aw) l_ t).2 0)<|CC<|BC f8<|BC f8<|BB f8<|EE k70<|VV (jG (bR (ay (⟨q.name,q.ai,q.af,q.aH,q.aJ,q.bad,.aI,((([]:List aE)++q.ao).set (l_.g b8.toNat).aC.toNat ({((([]:List aE)++q.ao).g (l_.g b8.toNat).aC.toNat) with acc:=(IntKind.i64.wrap (Int.tdiv ((([]:List aE)++q.ao).g (l_.g b8.toNat).aC.toNat).acc 2))}:aE))⟩:aw) l_ t).1 (ay q l_ t).1) false f8)<|CC<|BV f9 (pH false f9)<|CC<|ZZ) k!
                     subst je
                     have e:fh q l_ t bO=false:=by simp only[fh,f0,f1,f2,f3,f4,f5,f6,f7,f8,f9,ax,ar]
                     rw[e]
                     exact aF rfl (bu Try.func4 hJ k! (.inr rfl) ev k!) Q4 rfl
                 · have aer:=of_decide_eq_false f8
                   have ev:=pk (d+15) ff ((AV.agg [(AV.str q.name),(Zi q.ai),(Zi q.af),(Zi q.aH),(Zi q.aJ),(Zi q.bad),q.aA])::nI::(Zi t)::(Zi bO)::ka 141) h .ret M6 (NN b9 (fun i=>(Pt i))<|CC<|MM (aL 26 0 (AV.agg [(AV.str q.name),(Zi q.ai),(Zi q.af),(Zi q.aH),(Zi q.aJ),(Zi q.bad),q.aA]) aO k!)<|CC<|EE k2<|CC<|BC f0<|BV f0 As<|BV f0 (dZ 3 false true .i64 ((l_.length:Nat):Int) 0)<|VV (bJ (a:=some (AV.bool true)) (b:=some (AV.bool (decide (((l_.length:Nat):Int)=0)))) f0)<|BM f1 (aL 26 0 (AV.agg [(AV.str q.name),(Zi q.ai),(Zi q.af),(Zi q.aH),(Zi q.aJ),(Zi q.bad),q.aA]) aO k!)<|CN 2<|EE si<|CN 6<|VV (gL 31 false true .i64 (ay q l_ t).2 0)<|BB f2<|CN 2<|VV LD<|VV (show bU env .rem 3 false false (some (Zi bO)) (some (Zn l_.length))=some (Zi (Int.tmod bO ((l_.length:Nat):Int))) from cy o! rfl)<|CC<|VV pw<|CN 2<|VV A'<|VV (show bU env .rem 3 false false (some (Zi (IntKind.i64.wrap ((Int.tmod bO ((l_.length:Nat):Int))+((l_.length:Nat):Int))))) (some (Zn l_.length))=some (Zi b8) from cy o! je.symm)<|CC<|NN sF (fun i=>(AV.slice i 0 0 0 false))<|CN 2<|QQ Ba<|CN 2<|VV (oU 3 false true RW)<|QQ Bb<|PP (show bf env vg #[27,27] (AV.slice h6.nx 0 0 0 false) M4=some (z21,uX) from nO)<|PP (show bf env uX #[27,27] z21 M5=some (z24,oC) from nQ)<|CC<|HH (show ∃o,vg.get h6.nx=some o∧aR.same o (aR.cells [] 43 false)=true from ⟨_,rj,by simp [aR.same,cg,AV.same]⟩)<|MM (aL 26 0 (AV.agg [(AV.str q.name),(Zi q.ai),(Zi q.af),(Zi q.aH),(Zi q.aJ),(Zi q.bad),q.aA]) (cD _ _ (dM.a _ _ aO)) k!)<|CN 2<|EE sG<|CN 6<|VV (gL 31 false true .i64 (ay q ((([]:List aB)++(l_.take b8.toNat))++(l_.drop (b8+1).toNat)) t).2 0)<|CC<|BC f3<|BC f3<|BB f3<|EE O4<|BC f3<|VV (bJ (a:=some (AV.bool true)) (b:=some (AV.bool (!(bR (ay q l_ t).1 (ay q ((([]:List aB)++(l_.take b8.toNat))++(l_.drop (b8+1).toNat)) t).1)))) f3)<|BM f4 (aL 26 0 (AV.agg [(AV.str q.name),(Zi q.ai),(Zi q.af),(Zi q.aH),(Zi q.aJ),(Zi q.bad),q.aA]) (cW.a _ _ (cD _ _ (dM.a _ _ aO))) k!)<|NN xp (fun i=>(Pt i))<|SS xq<|CC<|MM (aL 3 5 (Zi q.bad) (cP _ _ o! (dV _ _ (cW.a _ _ (cD _ _ (dM.a _ _ aO))))) k!)<|CC<|MM (aL 24 6 q.aA (cP _ _ o! (dV _ _ (cW.a _ _ (cD _ _ (dM.a _ _ aO))))) k!)<|VV Gv<|VV (cS 3 false false .i64 q.bad ((q.ao.length:Nat):Int))<|BC f5<|MM (aL 3 5 (Zi q.bad) (cP _ _ o! (dV _ _ (cW.a _ _ (cD _ _ (dM.a _ _ aO))))) k!)<|VV (oU 3 false true w36)<|CC<|SS Gw<|MM (aL 26 0 (AV.agg [(AV.str q.name),(Zi q.ai),(Zi q.af),(Zi q.aH),(Zi q.aJ),(Zi (q.bad+1)),q.aA]) Gy k!)<|CN 2<|EE Cc<|CN 6<|VV (gL 31 false true .i64 (ay (⟨q.name,q.ai,q.af,q.aH,q.aJ,(q.bad+1),.aI,q.ao⟩:aw) l_ t).2 0)<|CC<|BC f6<|BC f6<|BB f6<|EE k41<|BC f6<|VV (bJ (a:=some (AV.bool true)) (b:=some (AV.bool (!(bR (ay q l_ t).1 (ay (⟨q.name,q.ai,q.af,q.aH,q.aJ,(q.bad+1),.aI,q.ao⟩:aw) l_ t).1)))) f6)<|BB f7<|CN 2<|VV Yk<|CC<|MM Ym<|CC<|MM (aL 26 0 (AV.agg [(AV.str q.name),(Zi q.ai),(Zi q.af),(Zi q.aH),(Zi q.aJ),(Zi q.bad),q.aA]) (ox.a _ _ (nR _ _ o! (cP _ _ o! (dV _ _ (cW.a _ _ (cD _ _ (dM.a _ _ aO))))))) k!)<|NN QL (fun i=>(Pt i))<|SS QN<|NN QR (fun i=>(AV.slice i 0 0 0 false))<|CC<|MM (aL 24 6 q.aA (rk _ _ (pz _ _ o! (vl _ _ (ox.a _ _ (nR _ _ o! (cP _ _ o! (dV _ _ (cW.a _ _ (cD _ _ (dM.a _ _ aO)))))))))) k!)<|PP (show bf env QP #[24,24] (AV.slice Kf.nx 0 0 0 false) q.aA=some (z51,L7) from IJ)<|CC<|SS QW<|CC<|MM (aL 24 6 z51 mP k!)<|CN 2<|MM (aL 24 6 z51 mP k!)<|CC<|VV Mf<|CC<|MM Mg<|CC<|VV Mf<|CC<|SS Q2<|HH (aL 24 6 z51 mP k!)<|HH YZ<|HH (aL 24 6 z51 mP k!)<|HH YZ<|HH Mg<|HH (show AV.same 20 (Zi ((([]:List aE)++q.ao).g (l_.g b8.toNat).aC.toNat).acc) (Zi ((([]:List aE)++q.ao).g (l_.g b8.toNat).aC.toNat).acc)=true from aN 19 _ _)<|MM (aL 26 0 (AV.agg [(AV.str q.name),(Zi q.ai),(Zi q.af),(Zi q.aH),(Zi q.aJ),(Zi q.bad),z51]) (pB _ _ o! mP) k!)<|CN 2<|EE Kg<|CN 6<|VV (dZ 31 false true .i64 (ay (⟨q.name,q.ai,q.af,q.aH,q.aJ,q.bad,.aI,((([]:List aE)++q.ao).set (l_.g b8.toNat).aC.toNat ({((([]:List aE)++q.ao).g (l_.g b8.toNat).aC.toNat) with acc:=(IntKind.i64.wrap (Int.tdiv ((([]:List aE)++q.ao).g (l_.g b8.toNat).aC.toNat).acc 2))}:aE))⟩:aw) l_ t).2 0)<|CC<|BB f8<|BB f8<|BV f8 (pH false f8)<|CC<|FF<|CN 2<|ZZ) k!
                   subst je
                   have e:fh q l_ t bO=false:=by simp only[fh,f0,f1,f2,f3,f4,f5,f6,f7,f8,ax,ar]
                   rw[e]
                   exact aF rfl (bu Try.func4 hJ k! (.inr rfl) ev k!) Q4 rfl
           · have zP:=of_decide_eq_false f5
             obtain ⟨p37,q38,VZ⟩:=gN.elem (i:=b8.toNat) o!
             have Yo:dL env (some (.slice 43)) (some nI) (some (Zi b8))=some (AV.ptr p37 q38):=by rw[show (b8:Int)=((b8.toNat:Nat):Int) by omega];exact VZ
             have Yp:bw env Ka 3 (AV.ptr p37 (q38+0))=some (Zi (l_.g b8.toNat).aC):=(gN.has QI).part (t:=3) (j:=0) o! VZ k! rfl
             obtain ⟨h40,Q6,ab3,afp,ab4,xr⟩:=jS Gt (aR.cells [(AV.str []),(Zi 0),(Zi 0),(Zi 0),(Zi 0),(Zi 0),AV.aI] 26 false)
             have ab5:Has h h40:=QI.trans xr
             have Q7:Has h6 h40:=Gu.trans xr
             have Ml:Has oC h40:=Ca.trans xr
             have Mm:Has xn h40:=Cb.trans xr
             have Mn:Has Ka h40:=xr
             obtain ⟨Mo,Q8,V0,afq,ab6,rl⟩:=sa (t:=26) (n:=7) (i:=Ka.nx) (L:=[(AV.str q.name),(Zi q.ai),(Zi q.af),(Zi q.aH),(Zi q.aJ),(Zi q.bad),q.aA]) ab3 ab4 k! rfl rfl (by simp only[AV.cells,List.all_cons,List.all_nil,Bool.and_true,Bool.and_self,ib,fL,ic,ie,ei,kR,kS,kT,kU,kV,ig,Yj])
             have ab7:Has h Mo:=Has.bG ab5 rl cj o!
             have Q9:Has h6 Mo:=Has.bG Q7 rl js o!
             have Mp:Has oC Mo:=Has.bG Ml rl rh o!
             have Mq:Has xn Mo:=Has.bG Mm rl sH o!
             have Mr:Has Ka Mo:=Has.bG Mn rl Gt o!
             obtain ⟨RY,Q_,ab8,afr,ab9,sI⟩:=jS V0 (aR.cells [] 45 false)
             have Cf:Has h RY:=ab7.trans sI
             have Q':Has h6 RY:=Q9.trans sI
             have Ms:Has oC RY:=Mp.trans sI
             have Mt:Has xn RY:=Mq.trans sI
             have Mu:Has Ka RY:=Mr.trans sI
             have Cg:Has Mo RY:=sI
             obtain ⟨z44,M7,IM,aca,afs,afu,acb,rm⟩:=ba.W3 (tys:= #[24,24]) (l:=([]:List aE)) (m:=q.ao) (x:=q.aA) ab8 V0 Cg o! (.inl ⟨.inr ⟨_,rfl,(Nat.le_refl _),ab9⟩,rfl⟩:ba Mo RY (AV.slice Mo.nx 0 0 0 false) ([]:List aE)) (jH.2.has Cf).jD (jH.2.has Cf).first (jw (jH.2.has Cf) fun y hy=>aE.sc ((jH.2.has Cf).Dp y hy)) (by first | omega | (simp<;>omega)) rfl rfl k! k! (bytes:=40) k! (z0:=(AV.agg [(AV.str []),(Zi 0),(Zi 0),(Zi 0)])) k! rfl (by decide)
             have acd:Has h M7:=Cf.trans rm
             have Ra:Has h6 M7:=Q'.trans rm
             have Mv:Has oC M7:=Ms.trans rm
             have Mw:Has xn M7:=Mt.trans rm
             have Mx:Has Ka M7:=Mu.trans rm
             have Y5:Has Mo M7:=Cg.trans rm
             have DY:∀y∈(([]:List aE)++q.ao),az.ok M7 y:=Dq rm (nE (fun y hy=>by cases hy) (jH.2.has Cf).Dp)
             have IN:aQ M7 z44 (([]:List aE)++q.ao):=ba.rows acb (by first | omega | (simp<;>omega)) DY
             have ace:=IN.small
             obtain ⟨e46,aes,Rb⟩:=rU Mo.nx
             have acf:Tidy e46:=fun k w g=>by rw[Rb] at g;cases g
             have UA:∀h_:au,Has e46 h_:=fun h_ k w g=>by rw[Rb] at g;cases g
             have Rc:ba e46 M7 z44 (([]:List aE)++q.ao):=ba.le acb o!
             have Y6:List.length (([]:List aE)++q.ao)=_:=List.length_append
             have Y7:List.length ([]:List aE)=0:=rfl
             have afZ:AV.scalar z44=true:=IN.scalar
             obtain ⟨yj,Re,Ke,abQ,lk,wm⟩:=W7 (t:=24) (i:=Ka.nx) (o:=6) (v:=z44) (N:=[(AV.str q.name),(Zi q.ai),(Zi q.af),(Zi q.aH),(Zi q.aJ),(Zi q.bad),z44]) aca (rm _ _ (sI _ _ ab6)) k! IN.scalar k! k!
             have QM:Has h yj:=Has.bG acd wm cj o!
             have Az:Has h6 yj:=Has.bG Ra wm js o!
             have wh:Has oC yj:=Has.bG Mv wm rh o!
             have wj:Has xn yj:=Has.bG Mw wm sH o!
             have My:Has Ka yj:=Has.bG Mx wm Gt o!
             have Yq:ba e46 yj z44 (([]:List aE)++q.ao):=ba.kept Rc wm (ba.Tw Rc o!)
             have Rf:∀y∈(([]:List aE)++q.ao),az.ok yj y:=(cR (D:=aE) (h':=yj) DY)
             have Rg:aQ yj z44 (([]:List aE)++q.ao):=ba.rows Yq (by first | omega | (simp only[List.length_append,List.length_nil];omega)) Rf
             obtain ⟨p51,Ri,acE,acF⟩:=ba.ix Ke Yq (i:=((l_.g b8.toNat).aC).toNat) (by first | omega | (simp<;>omega))
             have Mz:dL env (some (.slice 45)) (some z44) (some (Zi (l_.g b8.toNat).aC))=some (AV.ptr p51 ((l_.g b8.toNat).aC.toNat*4)):=by rw[show (((l_.g b8.toNat).aC):Int)=(((l_.g b8.toNat).aC.toNat:Nat):Int) by omega];exact Ri
             have MA:bw env yj 3 (AV.ptr p51 (((l_.g b8.toNat).aC.toNat*4)+1))=some (Zi ((([]:List aE)++q.ao).g (l_.g b8.toNat).aC.toNat).acc):=Rg.part (t:=3) (j:=1) o! Ri k! rfl
             have UB:aE.ok yj ((([]:List aE)++q.ao).g (l_.g b8.toNat).aC.toNat):=(cR (D:=aE) (h':=yj) (cR (D:=aE) (h':=yj) DY)) _ (jT (by first | omega | (simp only[List.length_set,List.length_append,List.length_nil,List.nil_append];omega)))
             have Rj:az.ok yj ({((([]:List aE)++q.ao).g (l_.g b8.toNat).aC.toNat) with acc:=(IntKind.i64.wrap (Int.tdiv ((([]:List aE)++q.ao).g (l_.g b8.toNat).aC.toNat).acc 2))}:aE):=UB
             obtain ⟨UC,Rl,acg,afv,aet,afw,rn⟩:=ba.X7 (x:=({((([]:List aE)++q.ao).g (l_.g b8.toNat).aC.toNat) with acc:=(IntKind.i64.wrap (Int.tdiv ((([]:List aE)++q.ao).g (l_.g b8.toNat).aC.toNat).acc 2))}:aE)) (v:=(Zi (IntKind.i64.wrap (Int.tdiv ((([]:List aE)++q.ao).g (l_.g b8.toNat).aC.toNat).acc 2)))) (t:=3) (j:=1) Ke acf (UA yj) Yq (by first | omega | (simp only[List.length_set,List.length_append,List.length_nil,List.nil_append];omega)) Ri k! rfl rfl (by decide) rfl
             have V1:Has h UC:=Has.mO QM rn cj o!
             have Rm:Has h6 UC:=Has.mO Az rn js o!
             have MB:Has oC UC:=Has.mO wh rn rh o!
             have MC:Has xn UC:=Has.mO wj rn sH o!
             have MD:Has Ka UC:=Has.mO My rn Gt o!
             have UD:∀y∈((([]:List aE)++q.ao).set (l_.g b8.toNat).aC.toNat ({((([]:List aE)++q.ao).g (l_.g b8.toNat).aC.toNat) with acc:=(IntKind.i64.wrap (Int.tdiv ((([]:List aE)++q.ao).g (l_.g b8.toNat).aC.toNat).acc 2))}:aE)),az.ok UC y:=cR (D:=aE) (HM (cR (D:=aE) (h':=yj) (cR (D:=aE) (h':=yj) DY)) Rj)
             have DZ:aQ UC z44 ((([]:List aE)++q.ao).set (l_.g b8.toNat).aC.toNat ({((([]:List aE)++q.ao).g (l_.g b8.toNat).aC.toNat) with acc:=(IntKind.i64.wrap (Int.tdiv ((([]:List aE)++q.ao).g (l_.g b8.toNat).aC.toNat).acc 2))}:aE)):=ba.rows aet (by first | omega | (simp only[List.length_set,List.length_append,List.length_nil,List.nil_append];omega)) UD
             have Y8:=DZ.small
             have acG:((([]:List aE)++q.ao).set (l_.g b8.toNat).aC.toNat ({((([]:List aE)++q.ao).g (l_.g b8.toNat).aC.toNat) with acc:=(IntKind.i64.wrap (Int.tdiv ((([]:List aE)++q.ao).g (l_.g b8.toNat).aC.toNat).acc 2))}:aE)).length=(([]:List aE)++q.ao).length:=List.length_set
             have Y9:AV.same 20 z44 z44=true:=DZ.same 19
             obtain ⟨z61,HK,Kh,xu,⟨IP,UE⟩⟩:=j9 (d:=d+1) (⟨q.name,q.ai,q.af,q.aH,q.aJ,q.bad,z44,((([]:List aE)++q.ao).set (l_.g b8.toNat).aC.toNat ({((([]:List aE)++q.ao).g (l_.g b8.toNat).aC.toNat) with acc:=(IntKind.i64.wrap (Int.tdiv ((([]:List aE)++q.ao).g (l_.g b8.toNat).aC.toNat).acc 2))}:aE))⟩:aw) l_ t (⟨jH.1,DZ⟩) (gN.has V1) (by first | omega | exact rV (by assumption) | (simp only[List.length_append,List.length_nil,List.length_take,List.length_drop];omega)) acg
             rw[px] at Kh IP UE
             have ach:=xu.y
             have afx:UC.nx≤HK.nx:=xu.n
             have Ro:Has h HK:=V1.trans xu.a
             have Rp:Has h6 HK:=Rm.trans xu.a
             have Y_:Has oC HK:=MB.trans xu.a
             have Y':Has xn HK:=MC.trans xu.a
             have Za:Has Ka HK:=MD.trans xu.a
             have Zb:Has UC HK:=xu.a
             have aeu:=IP.small
             rcases Bool.eq_false_or_eq_true (decide ((ay (⟨q.name,q.ai,q.af,q.aH,q.aJ,q.bad,.aI,((([]:List aE)++q.ao).set (l_.g b8.toNat).aC.toNat ({((([]:List aE)++q.ao).g (l_.g b8.toNat).aC.toNat) with acc:=(IntKind.i64.wrap (Int.tdiv ((([]:List aE)++q.ao).g (l_.g b8.toNat).aC.toNat).acc 2))}:aE))⟩:aw) l_ t).2=0)) with f6 | f6
             · have Pp:=of_decide_eq_true f6
               have k63:=py (d:=d+14) (ay (⟨q.name,q.ai,q.af,q.aH,q.aJ,q.bad,.aI,((([]:List aE)++q.ao).set (l_.g b8.toNat).aC.toNat ({((([]:List aE)++q.ao).g (l_.g b8.toNat).aC.toNat) with acc:=(IntKind.i64.wrap (Int.tdiv ((([]:List aE)++q.ao).g (l_.g b8.toNat).aC.toNat).acc 2))}:aE))⟩:aw) l_ t).1 (ay q l_ t).1 IP (B'.has Rp) ach
               rcases Bool.eq_false_or_eq_true (bR (ay (⟨q.name,q.ai,q.af,q.aH,q.aJ,q.bad,.aI,((([]:List aE)++q.ao).set (l_.g b8.toNat).aC.toNat ({((([]:List aE)++q.ao).g (l_.g b8.toNat).aC.toNat) with acc:=(IntKind.i64.wrap (Int.tdiv ((([]:List aE)++q.ao).g (l_.g b8.toNat).aC.toNat).acc 2))}:aE))⟩:aw) l_ t).1 (ay q l_ t).1) with f7 | f7
               · have k65:=vh (d:=d+14) (h:=HK)
                 have ev:=pk (d+15) ff ((AV.agg [(AV.str q.name),(Zi q.ai),(Zi q.af),(Zi q.aH),(Zi q.aJ),(Zi q.bad),q.aA])::nI::(Zi t)::(Zi bO)::ka 141) h .ret HK (NN b9 (fun i=>(Pt i))<|CC<|MM (aL 26 0 (AV.agg [(AV.str q.name),(Zi q.ai),(Zi q.af),(Zi q.aH),(Zi q.aJ),(Zi q.bad),q.aA]) aO k!)<|CC<|EE k2<|CC<|BC f0<|BV f0 As<|BV f0 (dZ 3 false true .i64 ((l_.length:Nat):Int) 0)<|VV (bJ (a:=some (AV.bool true)) (b:=some (AV.bool (decide (((l_.length:Nat):Int)=0)))) f0)<|BM f1 (aL 26 0 (AV.agg [(AV.str q.name),(Zi q.ai),(Zi q.af),(Zi q.aH),(Zi q.aJ),(Zi q.bad),q.aA]) aO k!)<|CN 2<|EE si<|CN 6<|VV (gL 31 false true .i64 (ay q l_ t).2 0)<|BB f2<|CN 2<|VV LD<|VV (show bU env .rem 3 false false (some (Zi bO)) (some (Zn l_.length))=some (Zi (Int.tmod bO ((l_.length:Nat):Int))) from cy o! rfl)<|CC<|VV pw<|CN 2<|VV A'<|VV (show bU env .rem 3 false false (some (Zi (IntKind.i64.wrap ((Int.tmod bO ((l_.length:Nat):Int))+((l_.length:Nat):Int))))) (some (Zn l_.length))=some (Zi b8) from cy o! je.symm)<|CC<|NN sF (fun i=>(AV.slice i 0 0 0 false))<|CN 2<|QQ Ba<|CN 2<|VV (oU 3 false true RW)<|QQ Bb<|PP (show bf env vg #[27,27] (AV.slice h6.nx 0 0 0 false) M4=some (z21,uX) from nO)<|PP (show bf env uX #[27,27] z21 M5=some (z24,oC) from nQ)<|CC<|HH (show ∃o,vg.get h6.nx=some o∧aR.same o (aR.cells [] 43 false)=true from ⟨_,rj,by simp [aR.same,cg,AV.same]⟩)<|MM (aL 26 0 (AV.agg [(AV.str q.name),(Zi q.ai),(Zi q.af),(Zi q.aH),(Zi q.aJ),(Zi q.bad),q.aA]) (cD _ _ (dM.a _ _ aO)) k!)<|CN 2<|EE sG<|CN 6<|VV (gL 31 false true .i64 (ay q ((([]:List aB)++(l_.take b8.toNat))++(l_.drop (b8+1).toNat)) t).2 0)<|CC<|BC f3<|BC f3<|BB f3<|EE O4<|BC f3<|VV (bJ (a:=some (AV.bool true)) (b:=some (AV.bool (!(bR (ay q l_ t).1 (ay q ((([]:List aB)++(l_.take b8.toNat))++(l_.drop (b8+1).toNat)) t).1)))) f3)<|BM f4 (aL 26 0 (AV.agg [(AV.str q.name),(Zi q.ai),(Zi q.af),(Zi q.aH),(Zi q.aJ),(Zi q.bad),q.aA]) (cW.a _ _ (cD _ _ (dM.a _ _ aO))) k!)<|NN xp (fun i=>(Pt i))<|SS xq<|CC<|MM (aL 3 5 (Zi q.bad) (cP _ _ o! (dV _ _ (cW.a _ _ (cD _ _ (dM.a _ _ aO))))) k!)<|CC<|MM (aL 24 6 q.aA (cP _ _ o! (dV _ _ (cW.a _ _ (cD _ _ (dM.a _ _ aO))))) k!)<|VV Gv<|VV (cS 3 false false .i64 q.bad ((q.ao.length:Nat):Int))<|BB f5<|CN 2<|VV Yo<|CC<|MM Yp<|CC<|MM (aL 26 0 (AV.agg [(AV.str q.name),(Zi q.ai),(Zi q.af),(Zi q.aH),(Zi q.aJ),(Zi q.bad),q.aA]) (cP _ _ o! (dV _ _ (cW.a _ _ (cD _ _ (dM.a _ _ aO))))) k!)<|NN Q6 (fun i=>(Pt i))<|SS Q8<|NN Q_ (fun i=>(AV.slice i 0 0 0 false))<|CC<|MM (aL 24 6 q.aA (sI _ _ (rl _ _ o! (xr _ _ (cP _ _ o! (dV _ _ (cW.a _ _ (cD _ _ (dM.a _ _ aO)))))))) k!)<|PP (show bf env RY #[24,24] (AV.slice Mo.nx 0 0 0 false) q.aA=some (z44,M7) from IM)<|CC<|SS Re<|CC<|MM (aL 24 6 z44 lk k!)<|CN 2<|MM (aL 24 6 z44 lk k!)<|CC<|VV Mz<|CC<|MM MA<|CC<|VV Mz<|CC<|SS Rl<|HH (aL 24 6 z44 lk k!)<|HH Y9<|HH (aL 24 6 z44 lk k!)<|HH Y9<|HH MA<|HH (show AV.same 20 (Zi ((([]:List aE)++q.ao).g (l_.g b8.toNat).aC.toNat).acc) (Zi ((([]:List aE)++q.ao).g (l_.g b8.toNat).aC.toNat).acc)=true from aN 19 _ _)<|MM (aL 26 0 (AV.agg [(AV.str q.name),(Zi q.ai),(Zi q.af),(Zi q.aH),(Zi q.aJ),(Zi q.bad),z44]) (rn _ _ o! lk) k!)<|CN 2<|EE Kh<|CN 6<|VV (dZ 31 false true .i64 (ay (⟨q.name,q.ai,q.af,q.aH,q.aJ,q.bad,.aI,((([]:List aE)++q.ao).set (l_.g b8.toNat).aC.toNat ({((([]:List aE)++q.ao).g (l_.g b8.toNat).aC.toNat) with acc:=(IntKind.i64.wrap (Int.tdiv ((([]:List aE)++q.ao).g (l_.g b8.toNat).aC.toNat).acc 2))}:aE))⟩:aw) l_ t).2 0)<|CC<|BC f6<|BC f6<|BB f6<|EE k63<|VV (jG (bR (ay (⟨q.name,q.ai,q.af,q.aH,q.aJ,q.bad,.aI,((([]:List aE)++q.ao).set (l_.g b8.toNat).aC.toNat ({((([]:List aE)++q.ao).g (l_.g b8.toNat).aC.toNat) with acc:=(IntKind.i64.wrap (Int.tdiv ((([]:List aE)++q.ao).g (l_.g b8.toNat).aC.toNat).acc 2))}:aE))⟩:aw) l_ t).1 (ay q l_ t).1) false f6)<|CC<|BB f7<|EE k65<|VV (jG true false f7)<|CC<|ZZ) k!
                 subst je
                 have e:fh q l_ t bO=true:=by simp only[fh,f0,f1,f2,f3,f4,f5,f6,f7,ax,ar]
                 rw[e]
                 exact aF rfl (bu Try.func4 hJ k! (.inr rfl) ev k!) Ro rfl
               · have ev:=pk (d+15) ff ((AV.agg [(AV.str q.name),(Zi q.ai),(Zi q.af),(Zi q.aH),(Zi q.aJ),(Zi q.bad),q.aA])::nI::(Zi t)::(Zi bO)::ka 141) h .ret HK (NN b9 (fun i=>(Pt i))<|CC<|MM (aL 26 0 (AV.agg [(AV.str q.name),(Zi q.ai),(Zi q.af),(Zi q.aH),(Zi q.aJ),(Zi q.bad),q.aA]) aO k!)<|CC<|EE k2<|CC<|BC f0<|BV f0 As<|BV f0 (dZ 3 false true .i64 ((l_.length:Nat):Int) 0)<|VV (bJ (a:=some (AV.bool true)) (b:=some (AV.bool (decide (((l_.length:Nat):Int)=0)))) f0)<|BM f1 (aL 26 0 (AV.agg [(AV.str q.name),(Zi q.ai),(Zi q.af),(Zi q.aH),(Zi q.aJ),(Zi q.bad),q.aA]) aO k!)<|CN 2<|EE si<|CN 6<|VV (gL 31 false true .i64 (ay q l_ t).2 0)<|BB f2<|CN 2<|VV LD<|VV (show bU env .rem 3 false false (some (Zi bO)) (some (Zn l_.length))=some (Zi (Int.tmod bO ((l_.length:Nat):Int))) from cy o! rfl)<|CC<|VV pw<|CN 2<|VV A'<|VV (show bU env .rem 3 false false (some (Zi (IntKind.i64.wrap ((Int.tmod bO ((l_.length:Nat):Int))+((l_.length:Nat):Int))))) (some (Zn l_.length))=some (Zi b8) from cy o! je.symm)<|CC<|NN sF (fun i=>(AV.slice i 0 0 0 false))<|CN 2<|QQ Ba<|CN 2<|VV (oU 3 false true RW)<|QQ Bb<|PP (show bf env vg #[27,27] (AV.slice h6.nx 0 0 0 false) M4=some (z21,uX) from nO)<|PP (show bf env uX #[27,27] z21 M5=some (z24,oC) from nQ)<|CC<|HH (show ∃o,vg.get h6.nx=some o∧aR.same o (aR.cells [] 43 false)=true from ⟨_,rj,by simp [aR.same,cg,AV.same]⟩)<|MM (aL 26 0 (AV.agg [(AV.str q.name),(Zi q.ai),(Zi q.af),(Zi q.aH),(Zi q.aJ),(Zi q.bad),q.aA]) (cD _ _ (dM.a _ _ aO)) k!)<|CN 2<|EE sG<|CN 6<|VV (gL 31 false true .i64 (ay q ((([]:List aB)++(l_.take b8.toNat))++(l_.drop (b8+1).toNat)) t).2 0)<|CC<|BC f3<|BC f3<|BB f3<|EE O4<|BC f3<|VV (bJ (a:=some (AV.bool true)) (b:=some (AV.bool (!(bR (ay q l_ t).1 (ay q ((([]:List aB)++(l_.take b8.toNat))++(l_.drop (b8+1).toNat)) t).1)))) f3)<|BM f4 (aL 26 0 (AV.agg [(AV.str q.name),(Zi q.ai),(Zi q.af),(Zi q.aH),(Zi q.aJ),(Zi q.bad),q.aA]) (cW.a _ _ (cD _ _ (dM.a _ _ aO))) k!)<|NN xp (fun i=>(Pt i))<|SS xq<|CC<|MM (aL 3 5 (Zi q.bad) (cP _ _ o! (dV _ _ (cW.a _ _ (cD _ _ (dM.a _ _ aO))))) k!)<|CC<|MM (aL 24 6 q.aA (cP _ _ o! (dV _ _ (cW.a _ _ (cD _ _ (dM.a _ _ aO))))) k!)<|VV Gv<|VV (cS 3 false false .i64 q.bad ((q.ao.length:Nat):Int))<|BB f5<|CN 2<|VV Yo<|CC<|MM Yp<|CC<|MM (aL 26 0 (AV.agg [(AV.str q.name),(Zi q.ai),(Zi q.af),(Zi q.aH),(Zi q.aJ),(Zi q.bad),q.aA]) (cP _ _ o! (dV _ _ (cW.a _ _ (cD _ _ (dM.a _ _ aO))))) k!)<|NN Q6 (fun i=>(Pt i))<|SS Q8<|NN Q_ (fun i=>(AV.slice i 0 0 0 false))<|CC<|MM (aL 24 6 q.aA (sI _ _ (rl _ _ o! (xr _ _ (cP _ _ o! (dV _ _ (cW.a _ _ (cD _ _ (dM.a _ _ aO)))))))) k!)<|PP (show bf env RY #[24,24] (AV.slice Mo.nx 0 0 0 false) q.aA=some (z44,M7) from IM)<|CC<|SS Re<|CC<|MM (aL 24 6 z44 lk k!)<|CN 2<|MM (aL 24 6 z44 lk k!)<|CC<|VV Mz<|CC<|MM MA<|CC<|VV Mz<|CC<|SS Rl<|HH (aL 24 6 z44 lk k!)<|HH Y9<|HH (aL 24 6 z44 lk k!)<|HH Y9<|HH MA<|HH (show AV.same 20 (Zi ((([]:List aE)++q.ao).g (l_.g b8.toNat).aC.toNat).acc) (Zi ((([]:List aE)++q.ao).g (l_.g b8.toNat).aC.toNat).acc)=true from aN 19 _ _)<|MM (aL 26 0 (AV.agg [(AV.str q.name),(Zi q.ai),(Zi q.af),(Zi q.aH),(Zi q.aJ),(Zi q.bad),z44]) (rn _ _ o! lk) k!)<|CN 2<|EE Kh<|CN 6<|VV (dZ 31 false true .i64 (ay (⟨q.name,q.ai,q.af,q.aH,q.aJ,q.bad,.aI,((([]:List aE)++q.ao).set (l_.g b8.toNat).aC.toNat ({((([]:List aE)++q.ao).g (l_.g b8.toNat).aC.toNat) with acc:=(IntKind.i64.wrap (Int.tdiv ((([]:List aE)++q.ao).g (l_.g b8.toNat).aC.toNat).acc 2))}:aE))⟩:aw) l_ t).2 0)<|CC<|BC f6<|BC f6<|BB f6<|EE k63<|VV (jG (bR (ay (⟨q.name,q.ai,q.af,q.aH,q.aJ,q.bad,.aI,((([]:List aE)++q.ao).set (l_.g b8.toNat).aC.toNat ({((([]:List aE)++q.ao).g (l_.g b8.toNat).aC.toNat) with acc:=(IntKind.i64.wrap (Int.tdiv ((([]:List aE)++q.ao).g (l_.g b8.toNat).aC.toNat).acc 2))}:aE))⟩:aw) l_ t).1 (ay q l_ t).1) false f6)<|CC<|BV f7 (pH false f7)<|CC<|ZZ) k!
                 subst je
                 have e:fh q l_ t bO=false:=by simp only[fh,f0,f1,f2,f3,f4,f5,f6,f7,ax,ar]
                 rw[e]
                 exact aF rfl (bu Try.func4 hJ k! (.inr rfl) ev k!) Ro rfl
             · have Pp:=of_decide_eq_false f6
               have ev:=pk (d+15) ff ((AV.agg [(AV.str q.name),(Zi q.ai),(Zi q.af),(Zi q.aH),(Zi q.aJ),(Zi q.bad),q.aA])::nI::(Zi t)::(Zi bO)::ka 141) h .ret HK (NN b9 (fun i=>(Pt i))<|CC<|MM (aL 26 0 (AV.agg [(AV.str q.name),(Zi q.ai),(Zi q.af),(Zi q.aH),(Zi q.aJ),(Zi q.bad),q.aA]) aO k!)<|CC<|EE k2<|CC<|BC f0<|BV f0 As<|BV f0 (dZ 3 false true .i64 ((l_.length:Nat):Int) 0)<|VV (bJ (a:=some (AV.bool true)) (b:=some (AV.bool (decide (((l_.length:Nat):Int)=0)))) f0)<|BM f1 (aL 26 0 (AV.agg [(AV.str q.name),(Zi q.ai),(Zi q.af),(Zi q.aH),(Zi q.aJ),(Zi q.bad),q.aA]) aO k!)<|CN 2<|EE si<|CN 6<|VV (gL 31 false true .i64 (ay q l_ t).2 0)<|BB f2<|CN 2<|VV LD<|VV (show bU env .rem 3 false false (some (Zi bO)) (some (Zn l_.length))=some (Zi (Int.tmod bO ((l_.length:Nat):Int))) from cy o! rfl)<|CC<|VV pw<|CN 2<|VV A'<|VV (show bU env .rem 3 false false (some (Zi (IntKind.i64.wrap ((Int.tmod bO ((l_.length:Nat):Int))+((l_.length:Nat):Int))))) (some (Zn l_.length))=some (Zi b8) from cy o! je.symm)<|CC<|NN sF (fun i=>(AV.slice i 0 0 0 false))<|CN 2<|QQ Ba<|CN 2<|VV (oU 3 false true RW)<|QQ Bb<|PP (show bf env vg #[27,27] (AV.slice h6.nx 0 0 0 false) M4=some (z21,uX) from nO)<|PP (show bf env uX #[27,27] z21 M5=some (z24,oC) from nQ)<|CC<|HH (show ∃o,vg.get h6.nx=some o∧aR.same o (aR.cells [] 43 false)=true from ⟨_,rj,by simp [aR.same,cg,AV.same]⟩)<|MM (aL 26 0 (AV.agg [(AV.str q.name),(Zi q.ai),(Zi q.af),(Zi q.aH),(Zi q.aJ),(Zi q.bad),q.aA]) (cD _ _ (dM.a _ _ aO)) k!)<|CN 2<|EE sG<|CN 6<|VV (gL 31 false true .i64 (ay q ((([]:List aB)++(l_.take b8.toNat))++(l_.drop (b8+1).toNat)) t).2 0)<|CC<|BC f3<|BC f3<|BB f3<|EE O4<|BC f3<|VV (bJ (a:=some (AV.bool true)) (b:=some (AV.bool (!(bR (ay q l_ t).1 (ay q ((([]:List aB)++(l_.take b8.toNat))++(l_.drop (b8+1).toNat)) t).1)))) f3)<|BM f4 (aL 26 0 (AV.agg [(AV.str q.name),(Zi q.ai),(Zi q.af),(Zi q.aH),(Zi q.aJ),(Zi q.bad),q.aA]) (cW.a _ _ (cD _ _ (dM.a _ _ aO))) k!)<|NN xp (fun i=>(Pt i))<|SS xq<|CC<|MM (aL 3 5 (Zi q.bad) (cP _ _ o! (dV _ _ (cW.a _ _ (cD _ _ (dM.a _ _ aO))))) k!)<|CC<|MM (aL 24 6 q.aA (cP _ _ o! (dV _ _ (cW.a _ _ (cD _ _ (dM.a _ _ aO))))) k!)<|VV Gv<|VV (cS 3 false false .i64 q.bad ((q.ao.length:Nat):Int))<|BB f5<|CN 2<|VV Yo<|CC<|MM Yp<|CC<|MM (aL 26 0 (AV.agg [(AV.str q.name),(Zi q.ai),(Zi q.af),(Zi q.aH),(Zi q.aJ),(Zi q.bad),q.aA]) (cP _ _ o! (dV _ _ (cW.a _ _ (cD _ _ (dM.a _ _ aO))))) k!)<|NN Q6 (fun i=>(Pt i))<|SS Q8<|NN Q_ (fun i=>(AV.slice i 0 0 0 false))<|CC<|MM (aL 24 6 q.aA (sI _ _ (rl _ _ o! (xr _ _ (cP _ _ o! (dV _ _ (cW.a _ _ (cD _ _ (dM.a _ _ aO)))))))) k!)<|PP (show bf env RY #[24,24] (AV.slice Mo.nx 0 0 0 false) q.aA=some (z44,M7) from IM)<|CC<|SS Re<|CC<|MM (aL 24 6 z44 lk k!)<|CN 2<|MM (aL 24 6 z44 lk k!)<|CC<|VV Mz<|CC<|MM MA<|CC<|VV Mz<|CC<|SS Rl<|HH (aL 24 6 z44 lk k!)<|HH Y9<|HH (aL 24 6 z44 lk k!)<|HH Y9<|HH MA<|HH (show AV.same 20 (Zi ((([]:List aE)++q.ao).g (l_.g b8.toNat).aC.toNat).acc) (Zi ((([]:List aE)++q.ao).g (l_.g b8.toNat).aC.toNat).acc)=true from aN 19 _ _)<|MM (aL 26 0 (AV.agg [(AV.str q.name),(Zi q.ai),(Zi q.af),(Zi q.aH),(Zi q.aJ),(Zi q.bad),z44]) (rn _ _ o! lk) k!)<|CN 2<|EE Kh<|CN 6<|VV (dZ 31 false true .i64 (ay (⟨q.name,q.ai,q.af,q.aH,q.aJ,q.bad,.aI,((([]:List aE)++q.ao).set (l_.g b8.toNat).aC.toNat ({((([]:List aE)++q.ao).g (l_.g b8.toNat).aC.toNat) with acc:=(IntKind.i64.wrap (Int.tdiv ((([]:List aE)++q.ao).g (l_.g b8.toNat).aC.toNat).acc 2))}:aE))⟩:aw) l_ t).2 0)<|CC<|BB f6<|BB f6<|BV f6 (pH false f6)<|CC<|FF<|CN 2<|ZZ) k!
               subst je
               have e:fh q l_ t bO=false:=by simp only[fh,f0,f1,f2,f3,f4,f5,f6,ax,ar]
               rw[e]
               exact aF rfl (bu Try.func4 hJ k! (.inr rfl) ev k!) Ro rfl
end
end Go.Proofs.aK
