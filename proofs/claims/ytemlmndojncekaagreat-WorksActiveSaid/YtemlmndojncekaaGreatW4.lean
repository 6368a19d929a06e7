import Derived.Test.YtemlmndojncekaaGreatW0
import Derived.Test.YtemlmndojncekaaGreatW3
namespace Go.Proofs.aQ
open Go.Proofs Ab
noncomputable section
set_option maxRecDepth 100000
set_option maxHeartbeats 4000000
set_option linter.unusedVariables false
set_option linter.unusedSimpArgs false
def s5:Code:=(Tryz.f138.body).getD .skip
theorem y_:Tryz.f138.body=some s5:=by kernel_rfl
def EH:Code:=(bw s5).getD 0 .skip
def fS (s:List Task) (P:Task→Bool):Nat→Nat→Option (Int)
 | 0,_=>none
 | dq+1,i0=>(bif (P (s.g i0)) then some ((i0:Nat):Int) else fS s P dq (i0+1))
theorem s6 {d:Nat} {h:aC} (sV:AV) (g:FuncId) (cap:List AV) (s:List Task) (P:Task→Bool) (bx:aW h sV s) (hP:∀y∈s,∀hh,Tidy hh→Has h hh→cN d (.fn g) (.agg (aR.c y)::cap) hh= .ret (.bool (P y)) hh):∀(k_ i_:Nat) (_:i_+k_=s.length) (x:Nat→AV) (hh:aC) (aI:Tidy hh) (aE:Has h hh),aF (cN (d)) EH ⟨(sV::(AV.func g [] cap)::rx x 2 5 ((Zn s.length)::(Zn i_)::rx x 9 10 [])),hh,[],.no⟩ (.exit 0) hh (fun y=>(sV::(AV.func g [] cap)::rx y 2 5 ((Zn s.length)::rx y 8 11 []))) (fun r y=>(sV::(AV.func g [] cap)::(y 2)::(y 3)::(Zi r)::(y 5)::(y 6)::(Zn s.length)::rx y 8 11 [])) (fS s P k_ i_)
 | 0,i0,fX,x,hh,aI,aE=>by
   have q1:(decide (((i0:Nat):Int)<((s.length:Nat):Int)))=false:=d!
   exact aF.out rfl (pk (d) _ _ hh _ hh (VV (bL 3 false false .i64 ((i0:Nat):Int) ((s.length:Nat):Int))<|BB q1<|ZZ) k!) (bE.refl aI) k!
 | dq+1,i0,fX,x,hh,aI,aE=>by
   have gT:=bx.small
   have q1:(decide (((i0:Nat):Int)<((s.length:Nat):Int)))=true:=d!
   obtain ⟨p3,q4,cC⟩:=(bx.has aE).elem (i:=i0) o!
   have iW:bO env (some (.slice 40)) (some sV) (some (Zn i0))=some (AV.ptr p3 q4):=cC
   have jY:bh env hh 40 (AV.ptr p3 q4)=some (AV.agg [(AV.str (s.g i0).name),(Zi (s.g i0).takes),(s.g i0).aU,(s.g i0).a_]):=(bx.has aE).load o! cC
   have k6:=hP (s.g i0) (Tw o!) hh aI aE
   have dJ:=fun {al ps} (k:Pk al _ ps)=>(VV (bL 3 false false .i64 ((i0:Nat):Int) ((s.length:Nat):Int))<|BB q1<|CN 5<|VV iW<|MM jY<|EE k6<|k:Pk _ [] ps)
   rcases Bool.eq_false_or_eq_true (P (s.g i0)) with f1 | f1
   · exact aF.ret ((i0:Nat):Int) (by simp only[fS,f1,aj,ai]) (pk (d) _ _ hh _ hh (dJ<|BB f1<|CN 2<|ZZ) k!) (bE.refl aI) k!
   · have u8:=fi 3 false true i0 1 o!
     exact aF.round (by simp only[fS,f1,aj,ai]) (pk (d) _ _ hh _ hh (dJ<|BV f1 u8<|CC<|ZZ) k!) (bE.refl aI) _ k! (fun x=>s6 sV g cap s P bx hP dq (i0+1) o! x hh aI aE)
def jo (s:List Task) (P:Task→Bool):Int:=(match (fS s P s.length 0) with | none=>(-1) | some yF=>yF)
theorem II {d:Nat} {h:aC} {sV:AV} {g:FuncId} {cap:List AV} (s:List Task) (P:Task→Bool) (AK:aW h sV s) (hP:∀y∈s,∀hh,Tidy hh→Has h hh→cN d (.fn g) (.agg (aR.c y)::cap) hh= .ret (.bool (P y)) hh) (ch:Tidy h):cN (d+1) (.fn 138) [sV,(AV.func g [] cap)] h= .ret (Zi (jo s P)) h:=by
 have iC:cb (some (.slice 40)) (some sV)=some (Zn s.length):=AK.len
 have D8:=s6 (d:=d) (h:=h) sV g cap s P AK hP s.length 0 o! (fun k_=>((sV::(AV.func g [] cap)::AV.undef::AV.undef::(Zi 0)::AV.undef::sV::(Zn s.length)::(Zi 0)::jX 10):List AV).getD k_ AV.undef) h ch (Has.refl _)
 cases dL:fS s P s.length 0 with
 | none=>
   obtain ⟨D2,h3,dX,gZ⟩:=aF.n dL D8
   have jg:Has h h3:=gZ.a
   have e:jo s P=(-1):=by simp only[jo,dL,aj,ai]
   rw[e]
   exact aH rfl (bb Tryz.func138 y_ rfl (.inr rfl) (pk (d) _ _ h _ h3 (CN 2<|VV iC<|CC<|LL dX<|CC<|ZZ) k!) k!) jg rfl
 | some yF=>
   obtain ⟨D2,h3,dX,gZ⟩:=aF.r dL D8
   have jg:Has h h3:=gZ.a
   have e:jo s P=yF:=by simp only[jo,dL,aj,ai]
   rw[e]
   exact aH rfl (bb Tryz.func138 y_ rfl (.inr rfl) (pk (d) _ _ h _ h3 (CN 2<|VV iC<|CC<|LL dX<|ZZ) k!) k!) jg rfl
def yH:Code:=(Tryz.f99.body).getD .skip
theorem Df:Tryz.f99.body=some yH:=by kernel_rfl
def fT (s:List Task) (P:Task→Bool):Bool:=(decide (0≤(jo s P)))
theorem Dg {d:Nat} {h:aC} {sV:AV} {g:FuncId} {cap:List AV} (s:List Task) (P:Task→Bool) (AK:aW h sV s) (hP:∀y∈s,∀hh,Tidy hh→Has h hh→cN d (.fn g) (.agg (aR.c y)::cap) hh= .ret (.bool (P y)) hh) (ch:Tidy h):cN (d+2) (.fn 99) [sV,(AV.func g [] cap)] h= .ret (AV.bool (fT s P)) h:=by
 have k1:=II (d:=d) s P AK hP ch
 have e:fT s P=(decide (0≤(jo s P))):=by simp only[fT,aj,ai]
 rw[e]
 exact aH rfl (bb Tryz.func99 Df rfl (.inr rfl) (pk (d+1) _ _ h _ h (CN 3<|EE k1<|VV (rv 3 false true .i64 (jo s P) 0)<|CC<|ZZ) k!) k!) (Has.refl _) rfl
def kF:Code:=(Tryz.f86.body).getD .skip
theorem Ad:Tryz.f86.body=some kF:=by kernel_rfl
def LQ:Code:=(bw kF).getD 0 .skip
def uC:Code:=(j_ kF).getD 1 .skip
def uD:Code:=(j_ kF).getD 6 .skip
def qa:Code:=(j_ kF).getD 7 .skip
def qb:Code:=(j_ kF).getD 8 .skip
def j1 (cy:List UInt8):Nat→Nat→Option (Bool)
 | 0,_=>none
 | dq+1,i0=>(bif (bif (!(bif (decide (97≤(((cy.g i0).toNat:Nat):Int))) then (decide ((((cy.g i0).toNat:Nat):Int)≤122)) else false)) then (bif (decide (((i0:Nat):Int)=0)) then true else (!(bif (decide (48≤(((cy.g i0).toNat:Nat):Int))) then (bif (decide ((((cy.g i0).toNat:Nat):Int)≤57)) then true else (decide ((((cy.g i0).toNat:Nat):Int)=45))) else (decide ((((cy.g i0).toNat:Nat):Int)=45))))) else false) then some false else j1 cy dq (i0+1))
theorem zc {d:Nat} {h:aC} (cy:List UInt8) (bx:cy.length<2^60):∀(k_ i_:Nat) (_:i_+k_=(List.length cy)) (x:Nat→AV) (hh:aC) (aI:Tidy hh) (aE:Has h hh),aF (cN (d)) LQ ⟨((AV.str cy)::rx x 1 13 ((Zn (List.length cy))::(Zn i_)::rx x 16 39 [])),hh,[],.no⟩ (.exit 0) hh (fun y=>((AV.str cy)::rx y 1 13 ((Zn (List.length cy))::rx y 15 40 []))) (fun r y=>((AV.str cy)::(y 1)::(AV.bool r)::rx y 3 11 ((Zn (List.length cy))::rx y 15 40 []))) (j1 cy k_ i_)
 | 0,i0,fX,x,hh,aI,aE=>by
   have q1:(decide (((i0:Nat):Int)<((List.length cy:Nat):Int)))=false:=d!
   exact aF.out rfl (pk (d) _ _ hh _ hh (VV (bL 3 false false .i64 ((i0:Nat):Int) ((List.length cy:Nat):Int))<|BB q1<|ZZ) k!) (bE.refl aI) k!
 | dq+1,i0,fX,x,hh,aI,aE=>by
   have q1:(decide (((i0:Nat):Int)<((List.length cy:Nat):Int)))=true:=d!
   obtain ⟨Ae,uE⟩:∃Ae:Nat→AV,Ev env (cN (d)) uD ⟨((AV.str cy)::(x 1)::(x 2)::(Zn i0)::rx x 4 10 ((Zn (List.length cy))::(Zn i0)::(AV.bool (decide (((i0:Nat):Int)<((List.length cy:Nat):Int))))::(Zn i0)::rx x 18 37 [])),hh,[],.no⟩ .normal ⟨((AV.str cy)::(x 1)::(x 2)::(Zn i0)::(AV.bool (bif (decide (97≤(((cy.g i0).toNat:Nat):Int))) then (decide ((((cy.g i0).toNat:Nat):Int)≤122)) else false))::rx x 5 9 ((Zn (List.length cy))::(Zn i0)::(AV.bool (decide (((i0:Nat):Int)<((List.length cy:Nat):Int))))::(Zn i0)::rx Ae 18 10 (rx x 28 27 []))),hh,[],.no⟩:=by
    have iW:zK env (some .string) (some (AV.str cy)) (some (Zn i0))=some (AV.int .u8 (((cy.g i0).toNat:Nat):Int)):=pW (j:=i0) o!
    rcases Bool.eq_false_or_eq_true (decide (97≤(((cy.g i0).toNat:Nat):Int))) with f0 | f0
    · have WZ:zK env (some .string) (some (AV.str cy)) (some (Zn i0))=some (AV.int .u8 (((cy.g i0).toNat:Nat):Int)):=pW (j:=i0) o!
      have ev:=pk (d) uD ((AV.str cy)::(x 1)::(x 2)::(Zn i0)::rx x 4 10 ((Zn (List.length cy))::(Zn i0)::(AV.bool (decide (((i0:Nat):Int)<((List.length cy:Nat):Int))))::(Zn i0)::rx x 18 37 [])) hh .normal hh (CN 2<|VV iW<|VV (rv 5 false true .u8 (((cy.g i0).toNat:Nat):Int) 97)<|CC<|BC f0<|BC f0<|BV f0 WZ<|BV f0 (vF 5 false true .u8 (((cy.g i0).toNat:Nat):Int) 122)<|VV (sP (decide ((((cy.g i0).toNat:Nat):Int)≤122)) false f0)<|CC<|ZZ) k!
      rw[show (bif (decide (97≤(((cy.g i0).toNat:Nat):Int))) then (decide ((((cy.g i0).toNat:Nat):Int)≤122)) else false)=(decide ((((cy.g i0).toNat:Nat):Int)≤122)) by simp only[f0,aj,ai]]
      exact kz ev k!
    · have ev:=pk (d) uD ((AV.str cy)::(x 1)::(x 2)::(Zn i0)::rx x 4 10 ((Zn (List.length cy))::(Zn i0)::(AV.bool (decide (((i0:Nat):Int)<((List.length cy:Nat):Int))))::(Zn i0)::rx x 18 37 [])) hh .normal hh (CN 2<|VV iW<|VV (rv 5 false true .u8 (((cy.g i0).toNat:Nat):Int) 97)<|CC<|BB f0<|BB f0<|BB f0<|BV f0 (yB false f0)<|CC<|ZZ) k!
      rw[show (bif (decide (97≤(((cy.g i0).toNat:Nat):Int))) then (decide ((((cy.g i0).toNat:Nat):Int)≤122)) else false)=false by simp only[f0,aj,ai]]
      exact kz ev k!
   obtain ⟨yj3,agO⟩:∃yj3:Nat→AV,Ev env (cN (d)) qa ⟨((AV.str cy)::(x 1)::(x 2)::(Zn i0)::(AV.bool (bif (decide (97≤(((cy.g i0).toNat:Nat):Int))) then (decide ((((cy.g i0).toNat:Nat):Int)≤122)) else false))::rx x 5 9 ((Zn (List.length cy))::(Zn i0)::(AV.bool (decide (((i0:Nat):Int)<((List.length cy:Nat):Int))))::(Zn i0)::rx Ae 18 10 (rx x 28 27 []))),hh,[],.no⟩ .normal ⟨((AV.str cy)::(x 1)::(x 2)::(Zn i0)::(AV.bool (bif (decide (97≤(((cy.g i0).toNat:Nat):Int))) then (decide ((((cy.g i0).toNat:Nat):Int)≤122)) else false))::(AV.bool (bif (decide (48≤(((cy.g i0).toNat:Nat):Int))) then (bif (decide ((((cy.g i0).toNat:Nat):Int)≤57)) then true else (decide ((((cy.g i0).toNat:Nat):Int)=45))) else (decide ((((cy.g i0).toNat:Nat):Int)=45))))::rx x 6 8 ((Zn (List.length cy))::(Zn i0)::(AV.bool (decide (((i0:Nat):Int)<((List.length cy:Nat):Int))))::(Zn i0)::rx Ae 18 10 (rx yj3 28 16 (rx x 44 11 [])))),hh,[],.no⟩:=by
    have wJ:zK env (some .string) (some (AV.str cy)) (some (Zn i0))=some (AV.int .u8 (((cy.g i0).toNat:Nat):Int)):=pW (j:=i0) o!
    rcases Bool.eq_false_or_eq_true (decide (48≤(((cy.g i0).toNat:Nat):Int))) with f0 | f0
    · have ix5:zK env (some .string) (some (AV.str cy)) (some (Zn i0))=some (AV.int .u8 (((cy.g i0).toNat:Nat):Int)):=pW (j:=i0) o!
      rcases Bool.eq_false_or_eq_true (decide ((((cy.g i0).toNat:Nat):Int)≤57)) with f1 | f1
      · have ev:=pk (d) qa ((AV.str cy)::(x 1)::(x 2)::(Zn i0)::(AV.bool (bif (decide (97≤(((cy.g i0).toNat:Nat):Int))) then (decide ((((cy.g i0).toNat:Nat):Int)≤122)) else false))::rx x 5 9 ((Zn (List.length cy))::(Zn i0)::(AV.bool (decide (((i0:Nat):Int)<((List.length cy:Nat):Int))))::(Zn i0)::rx Ae 18 10 (rx x 28 27 []))) hh .normal hh (CN 2<|VV wJ<|VV (rv 5 false true .u8 (((cy.g i0).toNat:Nat):Int) 48)<|CC<|BC f0<|BC f0<|BV f0 ix5<|BV f0 (vF 5 false true .u8 (((cy.g i0).toNat:Nat):Int) 57)<|VV (sP (decide ((((cy.g i0).toNat:Nat):Int)≤57)) false f0)<|CC<|BB f1<|BB f1<|BB f1<|BV f1 (yA true f1)<|CC<|ZZ) k!
        rw[show (bif (decide (48≤(((cy.g i0).toNat:Nat):Int))) then (bif (decide ((((cy.g i0).toNat:Nat):Int)≤57)) then true else (decide ((((cy.g i0).toNat:Nat):Int)=45))) else (decide ((((cy.g i0).toNat:Nat):Int)=45)))=true by simp only[f0,f1,aj,ai]]
        exact kz ev k!
      · have ix7:zK env (some .string) (some (AV.str cy)) (some (Zn i0))=some (AV.int .u8 (((cy.g i0).toNat:Nat):Int)):=pW (j:=i0) o!
        have ev:=pk (d) qa ((AV.str cy)::(x 1)::(x 2)::(Zn i0)::(AV.bool (bif (decide (97≤(((cy.g i0).toNat:Nat):Int))) then (decide ((((cy.g i0).toNat:Nat):Int)≤122)) else false))::rx x 5 9 ((Zn (List.length cy))::(Zn i0)::(AV.bool (decide (((i0:Nat):Int)<((List.length cy:Nat):Int))))::(Zn i0)::rx Ae 18 10 (rx x 28 27 []))) hh .normal hh (CN 2<|VV wJ<|VV (rv 5 false true .u8 (((cy.g i0).toNat:Nat):Int) 48)<|CC<|BC f0<|BC f0<|BV f0 ix5<|BV f0 (vF 5 false true .u8 (((cy.g i0).toNat:Nat):Int) 57)<|VV (sP (decide ((((cy.g i0).toNat:Nat):Int)≤57)) false f0)<|CC<|BC f1<|BC f1<|BV f1 ix7<|BV f1 (vE 5 false true .u8 (((cy.g i0).toNat:Nat):Int) 45)<|VV (cf (a:=some (AV.bool true)) (b:=some (AV.bool (decide ((((cy.g i0).toNat:Nat):Int)=45)))) f1)<|CC<|ZZ) k!
        rw[show (bif (decide (48≤(((cy.g i0).toNat:Nat):Int))) then (bif (decide ((((cy.g i0).toNat:Nat):Int)≤57)) then true else (decide ((((cy.g i0).toNat:Nat):Int)=45))) else (decide ((((cy.g i0).toNat:Nat):Int)=45)))=(decide ((((cy.g i0).toNat:Nat):Int)=45)) by simp only[f0,f1,aj,ai]]
        exact kz ev k!
    · have ix5:zK env (some .string) (some (AV.str cy)) (some (Zn i0))=some (AV.int .u8 (((cy.g i0).toNat:Nat):Int)):=pW (j:=i0) o!
      have ev:=pk (d) qa ((AV.str cy)::(x 1)::(x 2)::(Zn i0)::(AV.bool (bif (decide (97≤(((cy.g i0).toNat:Nat):Int))) then (decide ((((cy.g i0).toNat:Nat):Int)≤122)) else false))::rx x 5 9 ((Zn (List.length cy))::(Zn i0)::(AV.bool (decide (((i0:Nat):Int)<((List.length cy:Nat):Int))))::(Zn i0)::rx Ae 18 10 (rx x 28 27 []))) hh .normal hh (CN 2<|VV wJ<|VV (rv 5 false true .u8 (((cy.g i0).toNat:Nat):Int) 48)<|CC<|BB f0<|BB f0<|BB f0<|BV f0 (yB false f0)<|CC<|FF<|CC<|FF<|CC<|FF<|VV ix5<|FF<|VV (vE 5 false true .u8 (((cy.g i0).toNat:Nat):Int) 45)<|CN 2<|ZZ) k!
      rw[show (bif (decide (48≤(((cy.g i0).toNat:Nat):Int))) then (bif (decide ((((cy.g i0).toNat:Nat):Int)≤57)) then true else (decide ((((cy.g i0).toNat:Nat):Int)=45))) else (decide ((((cy.g i0).toNat:Nat):Int)=45)))=(decide ((((cy.g i0).toNat:Nat):Int)=45)) by simp only[f0,aj,ai]]
      exact kz ev k!
   obtain ⟨yj4,GA⟩:∃yj4:Nat→AV,Ev env (cN (d)) qb ⟨((AV.str cy)::(x 1)::(x 2)::(Zn i0)::(AV.bool (bif (decide (97≤(((cy.g i0).toNat:Nat):Int))) then (decide ((((cy.g i0).toNat:Nat):Int)≤122)) else false))::(AV.bool (bif (decide (48≤(((cy.g i0).toNat:Nat):Int))) then (bif (decide ((((cy.g i0).toNat:Nat):Int)≤57)) then true else (decide ((((cy.g i0).toNat:Nat):Int)=45))) else (decide ((((cy.g i0).toNat:Nat):Int)=45))))::rx x 6 8 ((Zn (List.length cy))::(Zn i0)::(AV.bool (decide (((i0:Nat):Int)<((List.length cy:Nat):Int))))::(Zn i0)::rx Ae 18 10 (rx yj3 28 16 (rx x 44 11 [])))),hh,[],.no⟩ .normal ⟨((AV.str cy)::(x 1)::(x 2)::(Zn i0)::(AV.bool (bif (decide (97≤(((cy.g i0).toNat:Nat):Int))) then (decide ((((cy.g i0).toNat:Nat):Int)≤122)) else false))::(AV.bool (bif (decide (48≤(((cy.g i0).toNat:Nat):Int))) then (bif (decide ((((cy.g i0).toNat:Nat):Int)≤57)) then true else (decide ((((cy.g i0).toNat:Nat):Int)=45))) else (decide ((((cy.g i0).toNat:Nat):Int)=45))))::rx x 6 8 ((Zn (List.length cy))::(Zn i0)::(AV.bool (decide (((i0:Nat):Int)<((List.length cy:Nat):Int))))::(Zn i0)::rx Ae 18 10 (rx yj3 28 16 (rx yj4 44 9 ((AV.bool (bif (!(bif (decide (97≤(((cy.g i0).toNat:Nat):Int))) then (decide ((((cy.g i0).toNat:Nat):Int)≤122)) else false)) then (bif (decide (((i0:Nat):Int)=0)) then true else (!(bif (decide (48≤(((cy.g i0).toNat:Nat):Int))) then (bif (decide ((((cy.g i0).toNat:Nat):Int)≤57)) then true else (decide ((((cy.g i0).toNat:Nat):Int)=45))) else (decide ((((cy.g i0).toNat:Nat):Int)=45))))) else false))::(x 54)::[]))))),hh,[],.no⟩:=by
    rcases Bool.eq_false_or_eq_true (!(bif (decide (97≤(((cy.g i0).toNat:Nat):Int))) then (decide ((((cy.g i0).toNat:Nat):Int)≤122)) else false)) with f0 | f0
    · rcases Bool.eq_false_or_eq_true (decide (((i0:Nat):Int)=0)) with f1 | f1
      · have ev:=pk (d) qb ((AV.str cy)::(x 1)::(x 2)::(Zn i0)::(AV.bool (bif (decide (97≤(((cy.g i0).toNat:Nat):Int))) then (decide ((((cy.g i0).toNat:Nat):Int)≤122)) else false))::(AV.bool (bif (decide (48≤(((cy.g i0).toNat:Nat):Int))) then (bif (decide ((((cy.g i0).toNat:Nat):Int)≤57)) then true else (decide ((((cy.g i0).toNat:Nat):Int)=45))) else (decide ((((cy.g i0).toNat:Nat):Int)=45))))::rx x 6 8 ((Zn (List.length cy))::(Zn i0)::(AV.bool (decide (((i0:Nat):Int)<((List.length cy:Nat):Int))))::(Zn i0)::rx Ae 18 10 (rx yj3 28 16 (rx x 44 11 [])))) hh .normal hh (CN 3<|BC f0<|BV f0 (vE 3 false true .i64 ((i0:Nat):Int) 0)<|BC f0<|BB f1<|BB f1<|BV f0 (yA true f1)<|VV (sP true false f0)<|ZZ) k!
        rw[show (bif (!(bif (decide (97≤(((cy.g i0).toNat:Nat):Int))) then (decide ((((cy.g i0).toNat:Nat):Int)≤122)) else false)) then (bif (decide (((i0:Nat):Int)=0)) then true else (!(bif (decide (48≤(((cy.g i0).toNat:Nat):Int))) then (bif (decide ((((cy.g i0).toNat:Nat):Int)≤57)) then true else (decide ((((cy.g i0).toNat:Nat):Int)=45))) else (decide ((((cy.g i0).toNat:Nat):Int)=45))))) else false)=true by simp only[f0,f1,aj,ai]]
        exact kz ev k!
      · have ev:=pk (d) qb ((AV.str cy)::(x 1)::(x 2)::(Zn i0)::(AV.bool (bif (decide (97≤(((cy.g i0).toNat:Nat):Int))) then (decide ((((cy.g i0).toNat:Nat):Int)≤122)) else false))::(AV.bool (bif (decide (48≤(((cy.g i0).toNat:Nat):Int))) then (bif (decide ((((cy.g i0).toNat:Nat):Int)≤57)) then true else (decide ((((cy.g i0).toNat:Nat):Int)=45))) else (decide ((((cy.g i0).toNat:Nat):Int)=45))))::rx x 6 8 ((Zn (List.length cy))::(Zn i0)::(AV.bool (decide (((i0:Nat):Int)<((List.length cy:Nat):Int))))::(Zn i0)::rx Ae 18 10 (rx yj3 28 16 (rx x 44 11 [])))) hh .normal hh (CN 3<|BC f0<|BV f0 (vE 3 false true .i64 ((i0:Nat):Int) 0)<|BC f0<|BC f1<|BC f1<|BV f0 (cf (a:=some (AV.bool true)) (b:=some (AV.bool (!(bif (decide (48≤(((cy.g i0).toNat:Nat):Int))) then (bif (decide ((((cy.g i0).toNat:Nat):Int)≤57)) then true else (decide ((((cy.g i0).toNat:Nat):Int)=45))) else (decide ((((cy.g i0).toNat:Nat):Int)=45)))))) f1)<|VV (sP (!(bif (decide (48≤(((cy.g i0).toNat:Nat):Int))) then (bif (decide ((((cy.g i0).toNat:Nat):Int)≤57)) then true else (decide ((((cy.g i0).toNat:Nat):Int)=45))) else (decide ((((cy.g i0).toNat:Nat):Int)=45)))) false f0)<|ZZ) k!
        rw[show (bif (!(bif (decide (97≤(((cy.g i0).toNat:Nat):Int))) then (decide ((((cy.g i0).toNat:Nat):Int)≤122)) else false)) then (bif (decide (((i0:Nat):Int)=0)) then true else (!(bif (decide (48≤(((cy.g i0).toNat:Nat):Int))) then (bif (decide ((((cy.g i0).toNat:Nat):Int)≤57)) then true else (decide ((((cy.g i0).toNat:Nat):Int)=45))) else (decide ((((cy.g i0).toNat:Nat):Int)=45))))) else false)=(!(bif (decide (48≤(((cy.g i0).toNat:Nat):Int))) then (bif (decide ((((cy.g i0).toNat:Nat):Int)≤57)) then true else (decide ((((cy.g i0).toNat:Nat):Int)=45))) else (decide ((((cy.g i0).toNat:Nat):Int)=45)))) by simp only[f0,f1,aj,ai]]
        exact kz ev k!
    · have ev:=pk (d) qb ((AV.str cy)::(x 1)::(x 2)::(Zn i0)::(AV.bool (bif (decide (97≤(((cy.g i0).toNat:Nat):Int))) then (decide ((((cy.g i0).toNat:Nat):Int)≤122)) else false))::(AV.bool (bif (decide (48≤(((cy.g i0).toNat:Nat):Int))) then (bif (decide ((((cy.g i0).toNat:Nat):Int)≤57)) then true else (decide ((((cy.g i0).toNat:Nat):Int)=45))) else (decide ((((cy.g i0).toNat:Nat):Int)=45))))::rx x 6 8 ((Zn (List.length cy))::(Zn i0)::(AV.bool (decide (((i0:Nat):Int)<((List.length cy:Nat):Int))))::(Zn i0)::rx Ae 18 10 (rx yj3 28 16 (rx x 44 11 [])))) hh .normal hh (CN 3<|BB f0<|BB f0<|BB f0<|BV f0 (yB false f0)<|ZZ) k!
      rw[show (bif (!(bif (decide (97≤(((cy.g i0).toNat:Nat):Int))) then (decide ((((cy.g i0).toNat:Nat):Int)≤122)) else false)) then (bif (decide (((i0:Nat):Int)=0)) then true else (!(bif (decide (48≤(((cy.g i0).toNat:Nat):Int))) then (bif (decide ((((cy.g i0).toNat:Nat):Int)≤57)) then true else (decide ((((cy.g i0).toNat:Nat):Int)=45))) else (decide ((((cy.g i0).toNat:Nat):Int)=45))))) else false)=false by simp only[f0,aj,ai]]
      exact kz ev k!
   have dJ:=fun {al ps} (k:Pk al _ ps)=>(VV (bL 3 false false .i64 ((i0:Nat):Int) ((List.length cy:Nat):Int))<|BB q1<|CN 2<|LL uE<|LL agO<|LL GA<|k:Pk _ [] ps)
   rcases Bool.eq_false_or_eq_true (bif (!(bif (decide (97≤(((cy.g i0).toNat:Nat):Int))) then (decide ((((cy.g i0).toNat:Nat):Int)≤122)) else false)) then (bif (decide (((i0:Nat):Int)=0)) then true else (!(bif (decide (48≤(((cy.g i0).toNat:Nat):Int))) then (bif (decide ((((cy.g i0).toNat:Nat):Int)≤57)) then true else (decide ((((cy.g i0).toNat:Nat):Int)=45))) else (decide ((((cy.g i0).toNat:Nat):Int)=45))))) else false) with f1 | f1
   · exact aF.ret false (by simp only[j1,f1,aj,ai]) (pk (d) _ _ hh _ hh (dJ<|BC f1<|ZZ) k!) (bE.refl aI) k!
   · have u6:=fi 3 false true i0 1 o!
     exact aF.round (by simp only[j1,f1,aj,ai]) (pk (d) _ _ hh _ hh (dJ<|BV f1 u6<|CC<|ZZ) k!) (bE.refl aI) _ k! (fun x=>zc cy bx dq (i0+1) o! x hh aI aE)
def ia (cy:List UInt8):Bool:=(bif (bif (decide (cy=[])) then true else (decide (16<((List.length cy:Nat):Int)))) then false else (match (j1 cy (List.length cy) 0) with | none=>true | some C_=>C_))
theorem Hh {d:Nat} {h:aC} (cy:List UInt8) (agP:cy.length<2^60) (ch:Tidy h):cN (d+1) (.fn 86) [(AV.str cy)] h= .ret (AV.bool (ia cy)) h:=by
 obtain ⟨yj1,Rq⟩:∃yj1:Nat→AV,Ev env (cN (d)) uC ⟨((AV.str cy)::AV.undef::(AV.bool false)::jX 52),h,[],.no⟩ .normal ⟨((AV.str cy)::AV.undef::(AV.bool false)::AV.undef::AV.undef::AV.undef::rx yj1 6 6 ((AV.bool (bif (decide (cy=[])) then true else (decide (16<((List.length cy:Nat):Int)))))::jX 42)),h,[],.no⟩:=by
  rcases Bool.eq_false_or_eq_true (decide (cy=[])) with f0 | f0
  · have ev:=pk (d) uC ((AV.str cy)::AV.undef::(AV.bool false)::jX 52) h .normal h (CC<|VV (Vv 9 false true cy [])<|CC<|BB f0<|BB f0<|BV f0 (yA true f0)<|ZZ) k!
    rw[show (bif (decide (cy=[])) then true else (decide (16<((List.length cy:Nat):Int))))=true by simp only[f0,aj,ai]]
    exact kz ev k!
  · have ev:=pk (d) uC ((AV.str cy)::AV.undef::(AV.bool false)::jX 52) h .normal h (CC<|VV (Vv 9 false true cy [])<|CC<|BC f0<|BC f0<|BV f0 (dw 3 false true .i64 ((List.length cy:Nat):Int) 16)<|VV (cf (a:=some (AV.bool true)) (b:=some (AV.bool (decide (16<((List.length cy:Nat):Int))))) f0)<|ZZ) k!
    rw[show (bif (decide (cy=[])) then true else (decide (16<((List.length cy:Nat):Int))))=(decide (16<((List.length cy:Nat):Int))) by simp only[f0,aj,ai]]
    exact kz ev k!
 rcases Bool.eq_false_or_eq_true (bif (decide (cy=[])) then true else (decide (16<((List.length cy:Nat):Int)))) with f0 | f0
 · have e:ia cy=false:=by simp only[ia,f0,aj,ai]
   rw[e]
   exact aH rfl (bb Tryz.func86 Ad rfl (.inr rfl) (pk (d) _ _ h _ h (CC<|LL Rq<|BC f0<|ZZ) k!) k!) (Has.refl _) rfl
 · have D8:=zc (d:=d) (h:=h) cy agP (List.length cy) 0 o! (fun k_=>(((AV.str cy)::AV.undef::(AV.bool false)::AV.undef::AV.undef::AV.undef::rx yj1 6 6 ((AV.bool (bif (decide (cy=[])) then true else (decide (16<((List.length cy:Nat):Int)))))::(AV.str cy)::(Zn (List.length cy))::(Zi 0)::jX 39)):List AV).getD k_ AV.undef) h ch (Has.refl _)
   cases ek:j1 cy (List.length cy) 0 with
   | none=>
     obtain ⟨EB,h5,ft,jQ⟩:=aF.n ek D8
     have hG:Has h h5:=jQ.a
     have e:ia cy=true:=by simp only[ia,f0,ek,aj,ai]
     rw[e]
     exact aH rfl (bb Tryz.func86 Ad rfl (.inr rfl) (pk (d) _ _ h _ h5 (CC<|LL Rq<|BB f0<|CN 3<|LL ft<|CC<|ZZ) k!) k!) hG rfl
   | some C_=>
     obtain ⟨EB,h5,ft,jQ⟩:=aF.r ek D8
     have hG:Has h h5:=jQ.a
     have e:ia cy=C_:=by simp only[ia,f0,ek,aj,ai]
     rw[e]
     exact aH rfl (bb Tryz.func86 Ad rfl (.inr rfl) (pk (d) _ _ h _ h5 (CC<|LL Rq<|BB f0<|CN 3<|LL ft<|ZZ) k!) k!) hG rfl
def IJ:Code:=(Tryz.f94.body).getD .skip
theorem Hj:Tryz.f94.body=some IJ:=by kernel_rfl
def ib (x_:Int) (dM:Int):Bool:=(bif (decide (0≤x_)) then (decide (x_≤dM)) else false)
theorem Hk {d:Nat} {h:aC} (x_:Int) (dM:Int) (ch:Tidy h):cN (d+1) (.fn 94) [(Zi x_),(Zi dM)] h= .ret (AV.bool (ib x_ dM)) h:=by
 rcases Bool.eq_false_or_eq_true (decide (0≤x_)) with f0 | f0
 · have e:ib x_ dM=(decide (x_≤dM)):=by simp only[ib,f0,aj,ai]
   rw[e]
   exact aH rfl (bb Tryz.func94 Hj rfl (.inr rfl) (pk (d) _ _ h _ h (CN 2<|VV (rv 3 false true .i64 x_ 0)<|CC<|BC f0<|BC f0<|BV f0 (vF 3 false false .i64 x_ dM)<|VV (sP (decide (x_≤dM)) false f0)<|CC<|ZZ) k!) k!) (Has.refl _) rfl
 · have e:ib x_ dM=false:=by simp only[ib,f0,aj,ai]
   rw[e]
   exact aH rfl (bb Tryz.func94 Hj rfl (.inr rfl) (pk (d) _ _ h _ h (CN 2<|VV (rv 3 false true .i64 x_ 0)<|CC<|BB f0<|BB f0<|BV f0 (yB false f0)<|CC<|ZZ) k!) k!) (Has.refl _) rfl
def IK:Code:=(Tryz.f42.body).getD .skip
theorem Rr:Tryz.f42.body=some IK:=by kernel_rfl
def dZ (t:Int):Bool:=(ib t 100000)
theorem qV {d:Nat} {h:aC} (t:Int) (ch:Tidy h):cN (d+2) (.fn 42) [(Zi t)] h= .ret (AV.bool (dZ t)) h:=by
 have k1:=Hk (d:=d) t 100000 ch
 have e:dZ t=(ib t 100000):=by simp only[dZ,aj,ai]
 rw[e]
 exact aH rfl (bb Tryz.func42 Rr rfl (.inr rfl) (pk (d+1) _ _ h _ h (CN 2<|EE k1<|CC<|ZZ) k!) k!) (Has.refl _) rfl
def Dh:Code:=(Tryz.f47.body).getD .skip
theorem mm:Tryz.f47.body=some Dh:=by kernel_rfl
def dy (j:cx) (mU:List Task) (t:Task):Int:=(bif (!(ia t.name)) then 5 else (bif (fT mU (fun y=>jm y t)) then 6 else (bif (!(dZ t.takes)) then 1 else (bif (!decide ((cK t.aB ((t.aB.length:Nat):Int) (fun jx=>dB (List.take jx t.aB) (List.g t.aB jx) j))=0)) then (cK t.aB ((t.aB.length:Nat):Int) (fun jx=>dB (List.take jx t.aB) (List.g t.aB jx) j)) else (dY t.aA ((t.aA.length:Nat):Int) (fun jx=>gM (List.take jx t.aA) (List.g t.aA jx) j))))))
theorem IL {d:Nat} {h:aC} {nH:AV} (j:cx) (mU:List Task) (t:Task) (bV:aR.ok h j) (lL:aW h nH mU) (h_t:aR.ok h t) (ch:Tidy h):cN (d+8) (.fn 47) [(AV.agg [j.aw,j.ao]),nH,(AV.agg [(AV.str t.name),(Zi t.takes),t.aU,t.a_])] h= .ret (Zi (dy j mU t)) h:=by
 obtain ⟨h1,di,cS,jU,bm,bP⟩:=jE ch (aM.cells [j.aw,j.ao] 25 false)
 have bA:Has h h1:=bP
 obtain ⟨h2,Rd,yC,ac3,pX,r_⟩:=jE cS (aM.cells [(AV.str t.name),(Zi t.takes),t.aU,t.a_] 40 false)
 have kT:Has h h2:=bA.trans r_
 have k3:=Hh (d:=d+6) t.name h_t.1 yC
 have dJ:=fun {al ps} (k:Pk al _ ps)=>(NN di (fun i=>(Pt i))<|NN Rd (fun i=>(Pt i))<|CN 2<|MM (aO 9 0 (AV.str t.name) pX k!)<|EE k3<|CN 2<|k:Pk _ [] ps)
 rcases Bool.eq_false_or_eq_true (!(ia t.name)) with f0 | f0
 · have e:dy j mU t=5:=by simp only[dy,f0,aj,ai]
   rw[e]
   exact aH rfl (bb Tryz.func47 mm rfl (.inr rfl) (pk (d+7) _ _ h _ h2 (dJ<|BC f0<|ZZ) k!) k!) kT rfl
 · have k5:=Dg (d:=d+5) mU (fun y=>jm y t) (lL.has kT) (fun y hy hh yy aa=>Ha (d:=d+4) y t h1.nx (aR.mono aa ((lL.has kT).oks y hy)) (aR.mono aa (aR.mono kT h_t)) (aa _ _ pX) yy) yC
   have hX:=fun {al ps} (k:Pk al _ ps)=>(dJ<|BB f0<|CN 2<|EE k5<|CC<|k:Pk _ [] ps)
   rcases Bool.eq_false_or_eq_true (fT mU (fun y=>jm y t)) with f1 | f1
   · have e:dy j mU t=6:=by simp only[dy,f0,f1,aj,ai]
     rw[e]
     exact aH rfl (bb Tryz.func47 mm rfl (.inr rfl) (pk (d+7) _ _ h _ h2 (hX<|BC f1<|ZZ) k!) k!) kT rfl
   · have k7:=qV (d:=d+5) t.takes yC
     have ow:=fun {al ps} (k:Pk al _ ps)=>(hX<|BC f1<|MM (aO 3 1 (Zi t.takes) pX k!)<|EE k7<|CN 2<|k:Pk _ [] ps)
     rcases Bool.eq_false_or_eq_true (!(dZ t.takes)) with f2 | f2
     · have e:dy j mU t=1:=by simp only[dy,f0,f1,f2,aj,ai]
       rw[e]
       exact aH rfl (bb Tryz.func47 mm rfl (.inr rfl) (pk (d+7) _ _ h _ h2 (ow<|BC f2<|ZZ) k!) k!) kT rfl
     · have ln9:cb (some (.slice 3)) (some t.aU)=some (Zn t.aB.length):=h_t.2.1.len
       have YU:=Da (d:=d+6) t.aB ((t.aB.length:Nat):Int) (fun jx=>dB (List.take jx t.aB) (List.g t.aB jx) j) (h_t.2.1.has kT) (fun jx hj aV hh yy aa fa=>Hd (d:=d+2) (List.take jx t.aB) (List.g t.aB jx) j h.nx fa (aR.mono aa (aR.mono kT bV)) (aa _ _ (r_ _ _ bm)) yy) yC
       have y9:=fun {al ps} (k:Pk al _ ps)=>(ow<|BC f2<|MM (aO 26 2 t.aU pX k!)<|CC<|MM (aO 26 2 t.aU pX k!)<|VV ln9<|CC<|EE YU<|CN 2<|VV (kS 29 false true .i64 (cK t.aB ((t.aB.length:Nat):Int) (fun jx=>dB (List.take jx t.aB) (List.g t.aB jx) j)) 0)<|k:Pk _ [] ps)
       rcases Bool.eq_false_or_eq_true (!decide ((cK t.aB ((t.aB.length:Nat):Int) (fun jx=>dB (List.take jx t.aB) (List.g t.aB jx) j))=0)) with f3 | f3
       · have e:dy j mU t=(cK t.aB ((t.aB.length:Nat):Int) (fun jx=>dB (List.take jx t.aB) (List.g t.aB jx) j)):=by simp only[dy,f0,f1,f2,f3,aj,ai]
         rw[e]
         exact aH rfl (bb Tryz.func47 mm rfl (.inr rfl) (pk (d+7) _ _ h _ h2 (y9<|BB f3<|CN 2<|ZZ) k!) k!) kT rfl
       · have ZJ:cb (some (.slice 83)) (some t.a_)=some (Zn t.aA.length):=h_t.2.2.len
         have k13:=Db (d:=d+6) t.aA ((t.aA.length:Nat):Int) (fun jx=>gM (List.take jx t.aA) (List.g t.aA jx) j) (h_t.2.2.has kT) (fun jx hj aV hh yy aa fa=>Hg (d:=d+1) (List.take jx t.aA) (List.g t.aA jx) j h.nx fa (aR.mono aa ((h_t.2.2.has kT).ok hj)) (aR.mono aa (aR.mono kT bV)) (aa _ _ (r_ _ _ bm)) yy) yC
         have e:dy j mU t=(dY t.aA ((t.aA.length:Nat):Int) (fun jx=>gM (List.take jx t.aA) (List.g t.aA jx) j)):=by simp only[dy,f0,f1,f2,f3,aj,ai]
         rw[e]
         exact aH rfl (bb Tryz.func47 mm rfl (.inr rfl) (pk (d+7) _ _ h _ h2 (y9<|BC f3<|MM (aO 38 3 t.a_ pX k!)<|CC<|MM (aO 38 3 t.a_ pX k!)<|VV ZJ<|CC<|EE k13<|CC<|ZZ) k!) k!) kT rfl
def IM:Code:=(Tryz.f46.body).getD .skip
theorem Rs:Tryz.f46.body=some IM:=by kernel_rfl
def fU (mU:List Task) (t:Task) (j:cx):Int:=(dy j mU t)
theorem Rt {d:Nat} {h:aC} {nH:AV} (mU:List Task) (t:Task) (j:cx) (jB:Nat) (lL:aW h nH mU) (h_t:aR.ok h t) (bV:aR.ok h j) (g_j:h.get jB=some (.cells (aR.c j) 25 false)) (ch:Tidy h):cN (d+9) (.fn 46) [nH,(AV.agg [(AV.str t.name),(Zi t.takes),t.aU,t.a_]),(Pt jB)] h= .ret (Zi (fU mU t j)) h:=by
 obtain ⟨h1,di,cS,jU,bm,bP⟩:=jE ch (aM.cells [(AV.str t.name),(Zi t.takes),t.aU,t.a_] 40 false)
 have bA:Has h h1:=bP
 have k2:=IL (d:=d) j mU t (aR.mono bA bV) (lL.has bA) (aR.mono bA h_t) cS
 have e:fU mU t j=(dy j mU t):=by simp only[fU,aj,ai]
 rw[e]
 exact aH rfl (bb Tryz.func46 Rs rfl (.inr rfl) (pk (d+8) _ _ h _ h1 (NN di (fun i=>(Pt i))<|CC<|MM (aO 25 0 (AV.agg [j.aw,j.ao]) (bP _ _ g_j) k!)<|CC<|MM (aO 40 0 (AV.agg [(AV.str t.name),(Zi t.takes),t.aU,t.a_]) bm k!)<|EE k2<|CC<|ZZ) k!) k!) bA rfl
def IN:Code:=(Tryz.f108.body).getD .skip
theorem Ru:Tryz.f108.body=some IN:=by kernel_rfl
def cm (s:List Bool):List Bool:=s
theorem Rv {d:Nat} {h:aC} (s:List Bool) (sB:Nat) (sN:Nat) (sF:Bool) (g_s:h.get sB=some (aM.cells (bs s) 4 false)) (l_s:s.length=sN) (t_s:sB<h.nx) (l6:s.length≤1000000000) (ch:Tidy h):∃z n op hk,cN (d+1) (.fn 108) [(AV.slice sB 0 sN sN sF)] h= .ret (.slice z 0 n n op) hk∧bE h hk∧hk.get z=some (aM.cells (bs (cm s)) 4 false)∧(cm s).length=n∧h.nx≤z:=by
 obtain ⟨h1,di,cS,jU,bm,bP⟩:=jE ch (aM.cells [] 4 false)
 have bA:Has h h1:=bP
 obtain ⟨qb3,qf4,h2,aj2,yC,aoy,ams,aj3,aoz⟩:=LK (tys:= #[75,75]) (n:=sN) (b:=sB) (f:=sF) cS bm (bP _ _ g_s) (by first | (rw[Q3];omega) | (rw[fO];omega)) (by first | exact VT _ | exact yl _) o! rfl rfl k! k! k! (bytes:=1) k! (z0:=AV.bool false) k! rfl (by decide)
 have kT:Has h h2:=bA.trans ams
 have e:cm s=s:=by simp only[cm,aj,ai]
 rw[e]
 exact ⟨qb3,sN,qf4,gA rfl (bb Tryz.func108 Ru rfl (.inr rfl) (pk (d) _ _ h _ h2 (CN 3<|FF<|NN di (fun i=>(AV.slice i 0 0 0 false))<|CC<|PP (show du env h1 #[75,75] (AV.slice h.nx 0 0 0 false) (AV.slice sB 0 sN sN sF)=some ((AV.slice qb3 0 sN sN qf4),h2) from aj2)<|CC<|ZZ) k!) k!) ch ⟨yC,kT,by omega⟩ (P:=fun hh=>hh.get qb3=some (aM.cells (bs s) 4 false)∧(s).length=sN∧h.nx≤qb3) ⟨aj3,l!,by omega⟩ fun v=>(yj v o!).elim⟩
def vp:Code:=(Tryz.f158.body).getD .skip
theorem BH:Tryz.f158.body=some vp:=by kernel_rfl
def Hl:Code:=(bw vp).getD 0 .skip
def gN (s:List Int) (P:Nat→Bool):Nat→Nat→Option (Int)
 | 0,_=>none
 | dq+1,i0=>(bif (P i0) then some ((i0:Nat):Int) else gN s P dq (i0+1))
theorem vq {d:Nat} {h:aC} (sV:AV) (g:FuncId) (cap:List AV) (s:List Int) (P:Nat→Bool) (bx:b8 h .i64 3 sV s) (hP:∀i hh,i<s.length→Tidy hh→Has h hh→cN d (.fn g) (.int .i64 (List.g s i)::cap) hh= .ret (.bool (P i)) hh):∀(k_ i_:Nat) (_:i_+k_=s.length) (x:Nat→AV) (hh:aC) (aI:Tidy hh) (aE:Has h hh),aF (cN (d)) Hl ⟨(sV::(AV.func g [] cap)::rx x 2 5 ((Zn s.length)::(Zn i_)::rx x 9 10 [])),hh,[],.no⟩ (.exit 0) hh (fun y=>(sV::(AV.func g [] cap)::rx y 2 5 ((Zn s.length)::rx y 8 11 []))) (fun r y=>(sV::(AV.func g [] cap)::(y 2)::(y 3)::(Zi r)::(y 5)::(y 6)::(Zn s.length)::rx y 8 11 [])) (gN s P k_ i_)
 | 0,i0,fX,x,hh,aI,aE=>by
   have q1:(decide (((i0:Nat):Int)<((s.length:Nat):Int)))=false:=d!
   exact aF.out rfl (pk (d) _ _ hh _ hh (VV (bL 3 false false .i64 ((i0:Nat):Int) ((s.length:Nat):Int))<|BB q1<|ZZ) k!) (bE.refl aI) k!
 | dq+1,i0,fX,x,hh,aI,aE=>by
   have gT:=bx.small
   have q1:(decide (((i0:Nat):Int)<((s.length:Nat):Int)))=true:=d!
   obtain ⟨p3,q4,cC,_⟩:=(bx.has aE).elem (i:=i0) o!
   have iW:bO env (some (.slice 3)) (some sV) (some (Zn i0))=some (AV.ptr p3 q4):=cC
   have jY:bh env hh 3 (AV.ptr p3 q4)=some (Zi (s.g i0)):=(bx.has aE).load o! cC
   have k6:=hP i0 hh o! aI aE
   have dJ:=fun {al ps} (k:Pk al _ ps)=>(VV (bL 3 false false .i64 ((i0:Nat):Int) ((s.length:Nat):Int))<|BB q1<|CN 5<|VV iW<|MM jY<|EE k6<|k:Pk _ [] ps)
   rcases Bool.eq_false_or_eq_true (P i0) with f1 | f1
   · exact aF.ret ((i0:Nat):Int) (by simp only[gN,f1,aj,ai]) (pk (d) _ _ hh _ hh (dJ<|BB f1<|CN 2<|ZZ) k!) (bE.refl aI) k!
   · have u8:=fi 3 false true i0 1 o!
     exact aF.round (by simp only[gN,f1,aj,ai]) (pk (d) _ _ hh _ hh (dJ<|BV f1 u8<|CC<|ZZ) k!) (bE.refl aI) _ k! (fun x=>vq sV g cap s P bx hP dq (i0+1) o! x hh aI aE)
def kl (s:List Int) (P:Nat→Bool):Int:=(match (gN s P s.length 0) with | none=>(-1) | some yF=>yF)
theorem LS {d:Nat} {h:aC} {sV:AV} {g:FuncId} {cap:List AV} (s:List Int) (P:Nat→Bool) (AK:b8 h .i64 3 sV s) (hP:∀i hh,i<s.length→Tidy hh→Has h hh→cN d (.fn g) (.int .i64 (List.g s i)::cap) hh= .ret (.bool (P i)) hh) (ch:Tidy h):cN (d+1) (.fn 158) [sV,(AV.func g [] cap)] h= .ret (Zi (kl s P)) h:=by
 have iC:cb (some (.slice 3)) (some sV)=some (Zn s.length):=AK.len
 have D8:=vq (d:=d) (h:=h) sV g cap s P AK hP s.length 0 o! (fun k_=>((sV::(AV.func g [] cap)::AV.undef::AV.undef::(Zi 0)::AV.undef::sV::(Zn s.length)::(Zi 0)::jX 10):List AV).getD k_ AV.undef) h ch (Has.refl _)
 cases dL:gN s P s.length 0 with
 | none=>
   obtain ⟨D2,h3,dX,gZ⟩:=aF.n dL D8
   have jg:Has h h3:=gZ.a
   have e:kl s P=(-1):=by simp only[kl,dL,aj,ai]
   rw[e]
   exact aH rfl (bb Tryz.func158 BH rfl (.inr rfl) (pk (d) _ _ h _ h3 (CN 2<|VV iC<|CC<|LL dX<|CC<|ZZ) k!) k!) jg rfl
 | some yF=>
   obtain ⟨D2,h3,dX,gZ⟩:=aF.r dL D8
   have jg:Has h h3:=gZ.a
   have e:kl s P=yF:=by simp only[kl,dL,aj,ai]
   rw[e]
   exact aH rfl (bb Tryz.func158 BH rfl (.inr rfl) (pk (d) _ _ h _ h3 (CN 2<|VV iC<|CC<|LL dX<|ZZ) k!) k!) jg rfl
def Af:Code:=(Tryz.f140.body).getD .skip
theorem EI:Tryz.f140.body=some Af:=by kernel_rfl
def iy (s:List Int) (P:Nat→Bool):Bool:=(decide (0≤(kl s P)))
theorem EJ {d:Nat} {h:aC} {sV:AV} {g:FuncId} {cap:List AV} (s:List Int) (P:Nat→Bool) (AK:b8 h .i64 3 sV s) (hP:∀i hh,i<s.length→Tidy hh→Has h hh→cN d (.fn g) (.int .i64 (List.g s i)::cap) hh= .ret (.bool (P i)) hh) (ch:Tidy h):cN (d+2) (.fn 140) [sV,(AV.func g [] cap)] h= .ret (AV.bool (iy s P)) h:=by
 have k1:=LS (d:=d) s P AK hP ch
 have e:iy s P=(decide (0≤(kl s P))):=by simp only[iy,aj,ai]
 rw[e]
 exact aH rfl (bb Tryz.func140 EI rfl (.inr rfl) (pk (d+1) _ _ h _ h (CN 3<|EE k1<|VV (rv 3 false true .i64 (kl s P) 0)<|CC<|ZZ) k!) k!) (Has.refl _) rfl
def Hm:Code:=(Tryz.f141.body).getD .skip
theorem OX:Tryz.f141.body=some Hm:=by kernel_rfl
def ox (lJ:Int) (hH:List Bool):Bool:=(!(hH.g lJ.toNat))
theorem OY {d:Nat} {h:aC} {lM:AV} (lJ:Int) (hH:List Bool) (T8:Nat) (qW:oh h 4 lM hH) (ZL:h.get T8=some (aM.cells [lM] 75 false)) (l6:0≤lJ) (om:lJ<(hH.length:Int)) (ch:Tidy h):cN (d+1) (.fn 141) [(Zi lJ),(Pt T8)] h= .ret (AV.bool (ox lJ hH)) h:=by
 obtain ⟨p2,q3,aj4,_⟩:=qW.elem (i:=lJ.toNat) o!
 have ix1:bO env (some (.slice 4)) (some lM) (some (Zi lJ))=some (AV.ptr p2 q3):=by rw[show (lJ:Int)=((lJ.toNat:Nat):Int) by omega];exact aj4
 have ld4:bh env h 4 (AV.ptr p2 q3)=some (AV.bool (hH.g lJ.toNat)):=qW.load o! aj4
 have e:ox lJ hH=(!(hH.g lJ.toNat)):=by simp only[ox,aj,ai]
 rw[e]
 exact aH rfl (bb Tryz.func141 OX rfl (.inr rfl) (pk (d) _ _ h _ h (CC<|MM (aO 75 0 lM ZL k!)<|CC<|VV ix1<|MM ld4<|CN 2<|ZZ) k!) k!) (Has.refl _) rfl
def IP:Code:=(Tryz.f109.body).getD .skip
theorem Hn:Tryz.f109.body=some IP:=by kernel_rfl
def lj (ab:List Task) (hH:List Bool) (tqk:Int):Bool:=(bif (!(hH.g tqk.toNat)) then (!(iy (ab.g tqk.toNat).aB (fun i=>ox (List.g (ab.g tqk.toNat).aB i) hH))) else false)
theorem Rw {d:Nat} {h:aC} {aw lM:AV} (ab:List Task) (hH:List Bool) (tqk:Int) (mC:aW h aw ab) (qW:oh h 4 lM hH) (l6:0≤tqk) (om:tqk<(hH.length:Int)) (yD:hH.length=ab.length) (zR:∀i,i<(ab.g tqk.toNat).aB.length→0≤(ab.g tqk.toNat).aB.g i∧(ab.g tqk.toNat).aB.g i<(hH.length:Int)) (ch:Tidy h):cN (d+4) (.fn 109) [aw,lM,(Zi tqk)] h= .ret (AV.bool (lj ab hH tqk)) h:=by
 obtain ⟨h1,di,cS,jU,bm,bP⟩:=jE ch (aM.cells [lM] 75 false)
 have bA:Has h h1:=bP
 obtain ⟨p3,q4,cC,_⟩:=qW.elem (i:=tqk.toNat) o!
 have iW:bO env (some (.slice 4)) (some lM) (some (Zi tqk))=some (AV.ptr p3 q4):=by rw[show (tqk:Int)=((tqk.toNat:Nat):Int) by omega];exact cC
 have jY:bh env h1 4 (AV.ptr p3 q4)=some (AV.bool (hH.g tqk.toNat)):=(qW.has bA).load o! cC
 have dJ:=fun {al ps} (k:Pk al _ ps)=>(AA (.a (aM.cells [lM] 75 false) (Pt h.nx) h1)<|HH di<|HH (show ∃mk:Nat→AV,some (aM.cells (AV.cells lM) 75 false,fun i=>AV.ptr i 0)=some (aM.cells [lM] 75 false,mk)∧mk h.nx=(Pt h.nx) from ⟨_,(by rw[Lk qW.scalar]),rfl⟩)<|CC<|MM (aO 75 0 lM bm k!)<|CC<|VV iW<|MM jY<|CN 2<|k:Pk _ [] ps)
 rcases Bool.eq_false_or_eq_true (!(hH.g tqk.toNat)) with f0 | f0
 · obtain ⟨p8,q9,OZ⟩:=mC.elem (i:=tqk.toNat) o!
   have ix7:bO env (some (.slice 40)) (some aw) (some (Zi tqk))=some (AV.ptr p8 q9):=by rw[show (tqk:Int)=((tqk.toNat:Nat):Int) by omega];exact OZ
   have Rx:bh env h1 26 (AV.ptr p8 (q9+2))=some ((ab.g tqk.toNat).aU):=(mC.has bA).part (t:=26) (j:=2) o! OZ k! rfl
   have k11:=EJ (d:=d+1) (ab.g tqk.toNat).aB (fun i=>ox (List.g (ab.g tqk.toNat).aB i) hH) ((mC.ok (i:=tqk.toNat) o!).2.1.has bA) (fun i hh hi yy aa=>by have q_:=zR i hi;exact OY (d:=d) (List.g (ab.g tqk.toNat).aB i) hH h.nx ((qW.has bA).has aa) (aa _ _ bm) o! o! yy) cS
   have e:lj ab hH tqk=(!(iy (ab.g tqk.toNat).aB (fun i=>ox (List.g (ab.g tqk.toNat).aB i) hH))):=by simp only[lj,f0,aj,ai]
   rw[e]
   exact aH rfl (bb Tryz.func109 Hn rfl (.inr rfl) (pk (d+3) _ _ h _ h1 (dJ<|BC f0<|BC f0<|BV f0 ix7<|BC f0<|BM f0 Rx<|BC f0<|BB f0<|EE k11<|BC f0<|VV (sP (!(iy (ab.g tqk.toNat).aB (fun i=>ox (List.g (ab.g tqk.toNat).aB i) hH))) false f0)<|CC<|ZZ) k!) k!) bA rfl
 · have e:lj ab hH tqk=false:=by simp only[lj,f0,aj,ai]
   rw[e]
   exact aH rfl (bb Tryz.func109 Hn rfl (.inr rfl) (pk (d+3) _ _ h _ h1 (dJ<|BB f0<|BB f0<|BB f0<|BB f0<|BB f0<|BB f0<|BB f0<|BV f0 (yB false f0)<|CC<|ZZ) k!) k!) bA rfl
theorem mn {p:Prop} (h:p:=by first | omega | assumption | exact NB _ o! | (intro q hq;have q_:=NB _ o! q hq;omega)):p:=h
theorem fk {p:Prop} (h:p:=by first | omega | (simp<;>omega)):p:=h
def pI:Code:=(Tryz.f52.body).getD .skip
theorem LU:Tryz.f52.body=some pI:=by kernel_rfl
def Ho:Code:=(bw pI).getD 0 .skip
def Hp:Code:=(bw pI).getD 1 .skip
def cz (oqd:List Int) (ab:List Task):Nat→Nat→List Int→List Bool→List Int×List Bool
 | 0,_,s7,cF=>(s7,cF)
 | o8+1,i1,s7,cF=>(bif (lj ab cF (oqd.g i1)) then ((s7++[(oqd.g i1)]),(cF.set (oqd.g i1).toNat true)) else cz oqd ab o8 (i1+1) s7 cF)
theorem vr {d:Nat} {h:aC} {gg1:aC} (aw:AV) (bt:AV) (az:List Bool) (O0:Bool) (oqd:List Int) (i0:Nat) (ab:List Task) (cU:Nat) (eM:aW h aw ab) (eR:b8 h .i64 3 bt oqd) (GI:i0<oqd.length) (pH:∀i,i<ab.length→∀q,q<(ab.g i).aB.length→0≤(ab.g i).aB.g q∧(ab.g i).aB.g q<(ab.length:Int)) (qP:∀q,q<oqd.length→0≤oqd.g q∧oqd.g q<(ab.length:Int)) (qQ:az.length=ab.length) (vG:ab.length≤100000) (EK:oqd.length≤100000) (Hq:(cm az).length=ab.length) (ch:Tidy h) (Lu:h.nx≤cU) (NG1:h.nx≤gg1.nx) (aj5:cU<gg1.nx):∀(k_ i_:Nat) (s7:List Int) (cF:List Bool) (z1:AV) (_:i_+k_=oqd.length) (_:((s7.length≤i0+1)∧(s7.length≤i0))) (x:Nat→AV) (hh:aC) (aI:Tidy hh) (aE:Has h hh) (gC:h.nx≤hh.nx) (rI:cF.length=((cm az).length)) (cO:hh.get cU=some (aM.cells (bs cF) 4 false)) (ZM:hU 3 gg1 hh z1 (zs .i64 s7)) (lz1:s7.length≤1000000000) (aeX:gg1.nx≤hh.nx),bS (σ:=List Int×List Bool) (ρ:=Unit) (cN (d+4)) Hp ⟨(aw::bt::rx x 2 5 ((AV.slice cU 0 (cm az).length (cm az).length O0)::z1::rx x 9 5 ((Zn oqd.length)::(Zn i0)::(x 16)::bt::(Zn oqd.length)::(Zn i_)::rx x 20 17 []))),hh,[],.no⟩ (.exit 2) hh (fun r z y=>(aw::bt::rx y 2 5 ((AV.slice cU 0 (cm az).length (cm az).length O0)::z::rx y 9 5 ((Zn oqd.length)::(Zn i0)::(y 16)::bt::(Zn oqd.length)::rx y 19 18 [])))) (fun r z y=>(aw::bt::rx y 2 5 ((AV.slice cU 0 (cm az).length (cm az).length O0)::rx y 8 6 ((Zn oqd.length)::(Zn i0)::(y 16)::bt::(Zn oqd.length)::rx y 19 18 [])))) (fun r z hk=>Has h hk∧hk.get cU=some (aM.cells (bs r.2) 4 false)∧r.2.length=((cm az).length)∧(r.1.length≤i0+1)∧hU 3 gg1 hk z (zs .i64 r.1)∧r.1.length≤1000000000) (fun r z hk=>Has h hk) (Sum.inl (cz oqd ab k_ i_ s7 cF))
 | 0,i1,s7,cF,z1,fX,fG,x,hh,aI,aE,gC,rI,cO,ZM,lz1,aeX=>by
   have OB:=qP
   have ob_:=OB i1
   have q1:(decide (((i1:Nat):Int)<((oqd.length:Nat):Int)))=false:=d!
   exact bS.out (s7,cF) z1 rfl (pk (d+4) _ _ hh _ hh (VV (bL 3 false false .i64 ((i1:Nat):Int) ((oqd.length:Nat):Int))<|BB q1<|ZZ) k!) aI o! ⟨aE,cO,l!,(show (s7.length≤i0+1) from fk),ZM,fk⟩ k!
 | o8+1,i1,s7,cF,z1,fX,fG,x,hh,aI,aE,gC,rI,cO,ZM,lz1,aeX=>by
   have qR:=eM.small
   have r7:=eR.small
   have Iz:=aI _ _ cO
   have NB:=pH
   have OB:=qP
   have ob_:=OB i1
   have aoA:i1<oqd.length→0≤oqd.g i1∧oqd.g i1<(ab.length:Int):=ob_
   have q1:(decide (((i1:Nat):Int)<((oqd.length:Nat):Int)))=true:=d!
   obtain ⟨p3,q4,cC,_⟩:=eR.elem (i:=i1) o!
   have iW:bO env (some (.slice 3)) (some bt) (some (Zn i1))=some (AV.ptr p3 q4):=cC
   have jY:bh env hh 3 (AV.ptr p3 q4)=some (Zi (oqd.g i1)):=(eR.has aE).load o! cC
   have k6:=Rw (d:=d) ab cF (oqd.g i1) (eM.has aE) (oh.own (op:=O0) (n:=((cm az).length)) k! k! cO l! o!) mn mn mn mn aI
   have dJ:=fun {al ps} (k:Pk al _ ps)=>(VV (bL 3 false false .i64 ((i1:Nat):Int) ((oqd.length:Nat):Int))<|BV q1 iW<|MM jY<|CN 4<|EE k6<|k:Pk _ [] ps)
   rcases Bool.eq_false_or_eq_true (lj ab cF (oqd.g i1)) with f1 | f1
   · have LB:bO env (some (.slice 4)) (some (AV.slice cU 0 (cm az).length (cm az).length O0)) (some (Zi (oqd.g i1)))=some (AV.ptr cU (oqd.g i1).toNat):=jc k! (show (oqd.g i1).toNat<((cm az).length) by omega) o!
     obtain ⟨h9,agQ⟩:∃G4:aC,G4=hh.put cU (some (aM.cells (bs (cF.set (oqd.g i1).toNat true)) 4 false)):=⟨_,rfl⟩
     have amt:dV env hh 4 (AV.ptr cU (oqd.g i1).toNat) (AV.bool true)=some h9:=by rw[agQ];exact o6 k! cO l!
     have adw:Iv hh h9 cU (aM.cells (bs (cF.set (oqd.g i1).toNat true)) 4 false):=by rw[agQ];exact jD aI cO
     have uq:=adw.1
     have ajO:h9.nx=hh.nx:=by rw[agQ];rfl
     have mJ:Has h h9:=adw.has aE ch o!
     obtain ⟨sX,OA,mi,Zl,D5,nA⟩:=jE uq (aM.cells [(Zi (oqd.g i1))] 3 false)
     have jZ:Has h sX:=mJ.trans nA
     have ZN:Has h9 sX:=nA
     obtain ⟨z12,m4,Ry,mj,ZO,T9,agR⟩:=hU.ac1 (k:= .i64) (g:=gg1) (tys:= #[26,26]) (v:=(oqd.g i1)) (L:=s7) mi o! ((ZM.chg adw o!).has ZN) D5 fk rfl rfl k! k! k! (bytes:=8) k! (z0:=Zi 0) k! rfl (by decide)
     have wN:Has h m4:=Has.Q4 jZ ch o! T9
     exact bS.out ((s7++[(oqd.g i1)]),(cF.set (oqd.g i1).toNat true)) z12 (congrArg Sum.inl (by simp only[cz,f1,aj,ai])) (pk (d+4) _ _ hh _ m4 (dJ<|BB f1<|CN 2<|VV LB<|SS amt<|CN 2<|NN OA (fun i=>(AV.slice i 0 1 1 false))<|PP (show du env sX #[26,26] z1 (AV.slice h9.nx 0 1 1 false)=some (z12,m4) from Ry)<|CC<|ZZ) k!) mj o! ⟨wN,(T9 _ _ o! (nA _ _ adw.2.1)),l!,(show ((s7++[(oqd.g i1)]).length≤i0+1) from fk),agR,fk⟩ k!
   · have u8:=fi 3 false true i1 1 o!
     exact bS.round (congrArg Sum.inl (by simp only[cz,f1,aj,ai])) (pk (d+4) _ _ hh _ hh (dJ<|BV f1 u8<|CC<|ZZ) k!) o! _ k! (fun x=>vr aw bt az O0 oqd i0 ab cU eM eR GI pH qP qQ vG EK Hq ch Lu NG1 aj5 o8 (i1+1) s7 cF z1 o! (show ((s7.length≤i0+1)∧(s7.length≤i0)) from fk) x hh aI aE o! l! cO ZM fk o!)
def da (oqd:List Int) (ab:List Task):Nat→Nat→List Int→List Bool→List Int×List Bool
 | 0,_,fQ,bj=>(fQ,bj)
 | dq+1,i0,fQ,bj=>da oqd ab dq (i0+1) (cz oqd ab oqd.length 0 fQ bj).1 (cz oqd ab oqd.length 0 fQ bj).2
theorem vt {d:Nat} {h:aC} {gg0:aC} (aw:AV) (bt:AV) (az:List Bool) (O0:Bool) (oqd:List Int) (ab:List Task) (bk:Nat) (bx:aW h aw ab) (cZ:b8 h .i64 3 bt oqd) (hF:∀i,i<ab.length→∀q,q<(ab.g i).aB.length→0≤(ab.g i).aB.g q∧(ab.g i).aB.g q<(ab.length:Int)) (je:∀q,q<oqd.length→0≤oqd.g q∧oqd.g q<(ab.length:Int)) (mI:az.length=ab.length) (nq:ab.length≤100000) (pF:oqd.length≤100000) (pY:(cm az).length=ab.length) (ch:Tidy h) (uo:h.nx≤bk) (NG0:h.nx≤gg0.nx) (Oz:bk<gg0.nx):∀(k_ i_:Nat) (fQ:List Int) (bj:List Bool) (z0:AV) (_:i_+k_=oqd.length) (x:Nat→AV) (hh:aC) (aI:Tidy hh) (aE:Has h hh) (gC:h.nx≤hh.nx) (jh:bj.length=((cm az).length)) (br:hh.get bk=some (aM.cells (bs bj) 4 false)) (TN:hU 3 gg0 hh z0 (zs .i64 fQ)) (lz0:fQ.length≤i_) (D4:gg0.nx≤hh.nx),bS (σ:=List Int×List Bool) (ρ:=Unit) (cN (d+4)) Ho ⟨(aw::bt::rx x 2 5 ((AV.slice bk 0 (cm az).length (cm az).length O0)::z0::rx x 9 5 ((Zn oqd.length)::(Zn i_)::rx x 16 21 []))),hh,[],.no⟩ (.exit 0) hh (fun r z y=>(aw::bt::rx y 2 5 ((AV.slice bk 0 (cm az).length (cm az).length O0)::z::rx y 9 5 ((Zn oqd.length)::rx y 15 22 [])))) (fun r z y=>(aw::bt::rx y 2 5 ((AV.slice bk 0 (cm az).length (cm az).length O0)::rx y 8 6 ((Zn oqd.length)::rx y 15 22 [])))) (fun r z hk=>Has h hk∧hk.get bk=some (aM.cells (bs r.2) 4 false)∧r.2.length=((cm az).length)∧hU 3 gg0 hk z (zs .i64 r.1)∧r.1.length≤oqd.length) (fun r z hk=>Has h hk) (Sum.inl (da oqd ab k_ i_ fQ bj))
 | 0,i0,fQ,bj,z0,fX,x,hh,aI,aE,gC,jh,br,TN,lz0,D4=>by
   have q1:(decide (((i0:Nat):Int)<((oqd.length:Nat):Int)))=false:=d!
   exact bS.out (fQ,bj) z0 rfl (pk (d+4) _ _ hh _ hh (VV (bL 3 false false .i64 ((i0:Nat):Int) ((oqd.length:Nat):Int))<|BB q1<|ZZ) k!) aI o! ⟨aE,br,l!,TN,fk⟩ k!
 | dq+1,i0,fQ,bj,z0,fX,x,hh,aI,aE,gC,jh,br,TN,lz0,D4=>by
   have q1:(decide (((i0:Nat):Int)<((oqd.length:Nat):Int)))=true:=d!
   have EC:cb (some (.slice 3)) (some bt)=some (Zn oqd.length):=cZ.len
   obtain ⟨zo5,MV,h4,kK,lI,ZP,aj6,agS,amu,E7,agT,amv⟩:=bS.n rfl (vr (d:=d) (h:=h) (gg1:=gg0) aw bt az O0 oqd i0 ab bk bx cZ o! (by assumption) (by assumption) o! o! o! (by assumption) ch o! o! o! oqd.length 0 fQ bj z0 o! (show ((fQ.length≤i0+1)∧(fQ.length≤i0)) from fk) (fun k_=>((aw::bt::rx x 2 5 ((AV.slice bk 0 (cm az).length (cm az).length O0)::z0::rx x 9 5 ((Zn oqd.length)::(Zn i0)::(AV.bool (decide (((i0:Nat):Int)<((oqd.length:Nat):Int))))::bt::(Zn oqd.length)::(Zi 0)::rx x 20 17 []))):List AV).getD k_ AV.undef) hh aI aE o! l! br TN fk o!)
   have jC:Has h h4:=aj6
   have u6:=fi 3 false true i0 1 o!
   exact bS.round (congrArg Sum.inl (by simp only[da,aj,ai])) (pk (d+4) _ _ hh _ h4 (VV (bL 3 false false .i64 ((i0:Nat):Int) ((oqd.length:Nat):Int))<|BC q1<|VV EC<|CC<|LL kK<|VV u6<|CC<|ZZ) k!) o! _ k! (fun x=>vt aw bt az O0 oqd ab bk bx cZ hF je mI nq pF pY ch uo NG0 Oz dq (i0+1) (cz oqd ab oqd.length 0 fQ bj).1 (cz oqd ab oqd.length 0 fQ bj).2 zo5 o! x h4 lI jC o! l! agS agT fk o!)
def aL (ab:List Task) (oqd:List Int) (az:List Bool):List Int:=((da oqd ab oqd.length 0 ([]) (cm az)).1)
theorem uF {d:Nat} {h:aC} {aw bt:AV} (ab:List Task) (oqd:List Int) (az:List Bool) (aZ:Nat) (pqN:Nat) (E9:Bool) (mC:aW h aw ab) (eC:b8 h .i64 3 bt oqd) (b6:h.get aZ=some (aM.cells (bs az) 4 false)) (s4:az.length=pqN) (aj7:aZ<h.nx) (l6:∀i,i<ab.length→∀q,q<(ab.g i).aB.length→0≤(ab.g i).aB.g q∧(ab.g i).aB.g q<(ab.length:Int)) (om:∀q,q<oqd.length→0≤oqd.g q∧oqd.g q<(ab.length:Int)) (yD:az.length=ab.length) (zR:ab.length≤100000) (Ex:oqd.length≤100000) (ch:Tidy h):∃z hk,cN (d+5) (.fn 52) [aw,bt,(AV.slice aZ 0 pqN pqN E9)] h= .ret z hk∧bE h hk∧b8 hk .i64 3 z (aL ab oqd az)∧hU 3 h hk z (zs .i64 (aL ab oqd az)):=by
 have VX:=mC.small
 have s9:=eC.small
 obtain ⟨qb1,_,O0,h3,amw,gZ,ZQ,rfl,amx⟩:=Rv (d:=d+3) az aZ pqN E9 b6 l! o! mn ch
 have zS:=gZ.y
 have agl:h.nx≤h3.nx:=gZ.n
 have jg:Has h h3:=gZ.a
 have an7:=zS _ _ ZQ
 have amy:(cm az).length=List.length az:=rfl
 have D_:cb (some (.slice 3)) (some bt)=some (Zn oqd.length):=eC.len
 obtain ⟨zo7,VY,h6,sh,ji,agU,O1,ZR,agV,Rz,agW⟩:=bS.n rfl (vt (d:=d) (h:=h) (gg0:=h3) aw bt az O0 oqd ab qb1 mC eC (by assumption) (by assumption) o! o! o! (by assumption) ch o! o! o! oqd.length 0 ([]) (cm az) AV.aG o! (fun k_=>((aw::bt::(AV.slice aZ 0 pqN pqN E9)::AV.undef::AV.undef::AV.undef::AV.aG::(AV.slice qb1 0 (cm az).length (cm az).length O0)::AV.aG::AV.undef::AV.undef::(AV.slice aZ 0 pqN pqN E9)::(AV.slice qb1 0 (cm az).length (cm az).length O0)::bt::(Zn oqd.length)::(Zi 0)::jX 21):List AV).getD k_ AV.undef) h3 zS jg o! l! ZQ (.inl ⟨rfl,rfl⟩) (Nat.zero_le _) o!)
 have hZ:Has h h6:=O1
 have e:aL ab oqd az=((da oqd ab oqd.length 0 ([]) (cm az)).1):=by simp only[aL,aj,ai]
 rw[e]
 have oz:=hU.le (h0:=h) Rz o!
 exact ⟨zo7,gA rfl (bb Tryz.func52 LU rfl (.inr rfl) (pk (d+4) _ _ h _ h6 (CN 2<|EE amw<|CN 3<|VV D_<|CC<|LL sh<|CN 2<|ZZ) k!) k!) ch ⟨ji,hZ,by omega⟩ (P:=fun hh=>b8 hh .i64 3 zo7 ((da oqd ab oqd.length 0 ([]) (cm az)).1)∧hU 3 h hh zo7 (zs .i64 (da oqd ab oqd.length 0 ([]) (cm az)).1)) ⟨oz.zs o! k! k!,oz⟩ fun v=>⟨oz.YW v k! k!,oz.YZ v⟩⟩
theorem nI {p:Prop} (h:p:=by first | omega | assumption | (simp only[List.length_replicate];done) | (simp only[List.length_replicate]<;>omega)):p:=h
def xf:Code:=(Tryz.f48.body).getD .skip
theorem O2:Tryz.f48.body=some xf:=by kernel_rfl
def IQ:Code:=(bw xf).getD 0 .skip
def fV (ab:List Task):Nat→Nat→List Int→List Int
 | 0,_,bj=>bj
 | dq+1,i0,bj=>fV ab dq (i0+1) (bj.set i0 ((i0:Nat):Int))
theorem xg {d:Nat} {h:aC} (aw:AV) (ab:List Task) (bk:Nat) (bx:aW h aw ab) (hF:∀i,i<ab.length→∀q,q<(ab.g i).aB.length→0≤(ab.g i).aB.g q∧(ab.g i).aB.g q<(ab.length:Int)) (je:ab.length≤100000) (ch:Tidy h) (uo:h.nx≤bk):∀(k_ i_:Nat) (bj:List Int) (_:i_+k_=ab.length) (_:(∀q,q<(bj).length→0≤(bj).g q∧(bj).g q<(ab.length:Int))) (x:Nat→AV) (hh:aC) (aI:Tidy hh) (aE:Has h hh) (gC:h.nx≤hh.nx) (jh:bj.length=ab.length) (br:hh.get bk=some (aM.cells (zs .i64 bj) 3 false)),bS (σ:=List Int) (ρ:=Unit) (cN (d+5)) IQ ⟨(aw::(x 1)::(x 2)::(AV.slice bk 0 ab.length ab.length false)::rx x 4 5 ((Zn ab.length)::(Zn i_)::rx x 11 13 [])),hh,[],.no⟩ (.exit 0) hh (fun r z y=>(aw::(y 1)::(y 2)::(AV.slice bk 0 ab.length ab.length false)::rx y 4 5 ((Zn ab.length)::rx y 10 14 []))) (fun r z y=>(aw::(y 1)::(y 2)::(AV.slice bk 0 ab.length ab.length false)::rx y 4 5 ((Zn ab.length)::rx y 10 14 []))) (fun r z hk=>Has h hk∧hk.get bk=some (aM.cells (zs .i64 r) 3 false)∧r.length=ab.length∧(∀q,q<(r).length→0≤(r).g q∧(r).g q<(ab.length:Int))) (fun r z hk=>Has h hk) (Sum.inl (fV ab k_ i_ bj))
 | 0,i0,bj,fX,fG,x,hh,aI,aE,gC,jh,br=>by
   have q1:(decide (((i0:Nat):Int)<((ab.length:Nat):Int)))=false:=d!
   exact bS.out bj AV.undef rfl (pk (d+5) _ _ hh _ hh (VV (bL 3 false false .i64 ((i0:Nat):Int) ((ab.length:Nat):Int))<|BB q1<|ZZ) k!) aI o! ⟨aE,br,l!,(show (∀q,q<(bj).length→0≤(bj).g q∧(bj).g q<(ab.length:Int)) from (by first | exact fG | exact T3 fG o! o!))⟩ k!
 | dq+1,i0,bj,fX,fG,x,hh,aI,aE,gC,jh,br=>by
   have gT:=bx.small
   have sU:=aI _ _ br
   have q1:(decide (((i0:Nat):Int)<((ab.length:Nat):Int)))=true:=d!
   have iW:bO env (some (.slice 3)) (some (AV.slice bk 0 ab.length ab.length false)) (some (Zn i0))=some (AV.ptr bk i0):=jc k! (show i0<ab.length by omega) o!
   obtain ⟨h3,agX⟩:∃G4:aC,G4=hh.put bk (some (aM.cells (zs .i64 (bj.set i0 ((i0:Nat):Int))) 3 false)):=⟨_,rfl⟩
   have amz:dV env hh 3 (AV.ptr bk i0) (Zn i0)=some h3:=by rw[agX];exact Bg k! br l!
   have agY:Iv hh h3 bk (aM.cells (zs .i64 (bj.set i0 ((i0:Nat):Int))) 3 false):=by rw[agX];exact jD aI br
   have zS:=agY.1
   have amA:h3.nx=hh.nx:=by rw[agX];rfl
   have jg:Has h h3:=agY.has aE ch o!
   have u4:=fi 3 false true i0 1 o!
   exact bS.round (congrArg Sum.inl (by simp only[fV,aj,ai])) (pk (d+5) _ _ hh _ h3 (VV (bL 3 false false .i64 ((i0:Nat):Int) ((ab.length:Nat):Int))<|BB q1<|CN 5<|VV iW<|SS amz<|VV u4<|CC<|ZZ) k!) o! _ k! (fun x=>xg aw ab bk bx hF je ch uo dq (i0+1) (bj.set i0 ((i0:Nat):Int)) o! (show (∀q,q<((bj.set i0 ((i0:Nat):Int))).length→0≤((bj.set i0 ((i0:Nat):Int))).g q∧((bj.set i0 ((i0:Nat):Int))).g q<(ab.length:Int)) from (by first | exact fG | exact T3 fG o! o!)) x h3 zS jg o! l! agY.2.1)
def eY (ab:List Task):List Int:=(aL ab (fV ab ab.length 0 (List.replicate ab.length 0)) (List.replicate ab.length false))
theorem O3 {d:Nat} {h:aC} {aw:AV} (ab:List Task) (mC:aW h aw ab) (l6:∀i,i<ab.length→∀q,q<(ab.g i).aB.length→0≤(ab.g i).aB.g q∧(ab.g i).aB.g q<(ab.length:Int)) (om:ab.length≤100000) (ch:Tidy h):∃z hk,cN (d+6) (.fn 48) [aw] h= .ret z hk∧bE h hk∧b8 hk .i64 3 z (eY ab)∧hU 3 h hk z (zs .i64 (eY ab)):=by
 have VX:=mC.small
 have iC:cb (some (.slice 40)) (some aw)=some (Zn ab.length):=mC.len
 have mk2:yV env (some (.slice 3)) (some (Zn ab.length)) (some (Zn ab.length))=some (aM.cells (bT [(Zi 0)] ab.length) 3 false,fun i=>AV.slice i 0 ab.length ab.length false):=od (bytes:=8) (z:=(Zi 0)) k! k! k! rfl (by decide) o!
 obtain ⟨h3,amB,zS,amA,amC,amD⟩:=jE ch (aM.cells (bT [(Zi 0)] ab.length) 3 false)
 have jg:Has h h3:=amD
 have aj8:h3.get h.nx=some (aM.cells (zs .i64 (List.replicate ab.length 0)) 3 false):=by have q:=amC;rw[Lj] at q;exact q
 obtain ⟨zo6,EB,h5,ft,pZ,ajy,TJ,agZ,agr,adx⟩:=bS.n rfl (xg (d:=d) (h:=h) aw ab h.nx mC (by assumption) o! ch o! ab.length 0 (List.replicate ab.length 0) o! (show (∀q,q<((List.replicate ab.length 0)).length→0≤((List.replicate ab.length 0)).g q∧((List.replicate ab.length 0)).g q<(ab.length:Int)) from (adu)) (fun k_=>((aw::AV.undef::AV.aG::(AV.slice h.nx 0 ab.length ab.length false)::AV.undef::aw::(Zn ab.length)::(AV.slice h.nx 0 ab.length ab.length false)::(AV.slice h.nx 0 ab.length ab.length false)::(Zn ab.length)::(Zi 0)::jX 13):List AV).getD k_ AV.undef) h3 zS jg o! l! aj8)
 have hG:Has h h5:=TJ
 have ln7:cb (some (.slice 40)) (some aw)=some (Zn ab.length):=mC.len
 have mk8:yV env (some (.slice 4)) (some (Zn ab.length)) (some (Zn ab.length))=some (aM.cells (bT [(AV.bool false)] ab.length) 4 false,fun i=>AV.slice i 0 ab.length ab.length false):=od (bytes:=1) (z:=(AV.bool false)) k! k! k! rfl (by decide) o!
 obtain ⟨h9,agz,uq,ajO,adh,Bt⟩:=jE pZ (aM.cells (bT [(AV.bool false)] ab.length) 4 false)
 have mJ:Has h h9:=hG.trans Bt
 have LV:Has h5 h9:=Bt
 have aj9:h9.get h5.nx=some (aM.cells (bs (List.replicate ab.length false)) 4 false):=by have q:=adh;rw[zO] at q;exact q
 obtain ⟨z10,kV,Zs,ct,amE,aka⟩:=uF (d:=d) ab (fV ab ab.length 0 (List.replicate ab.length 0)) (List.replicate ab.length false) h5.nx ab.length false (mC.has mJ) (b8.own (op:=false) (n:=ab.length) k! k! (Bt _ _ agZ) l! o!) aj9 l! o! nI nI nI nI nI uq
 have jk:=ct.y
 have GX:h9.nx≤kV.nx:=ct.n
 have fJ:Has h kV:=mJ.trans ct.a
 have akb:Has h5 kV:=LV.trans ct.a
 have amF:=amE.small
 have e:eY ab=(aL ab (fV ab ab.length 0 (List.replicate ab.length 0)) (List.replicate ab.length false)):=by simp only[eY,aj,ai]
 rw[e]
 have oz:=hU.le (h0:=h) aka o!
 exact ⟨z10,gA rfl (bb Tryz.func48 O2 rfl (.inr rfl) (pk (d+5) _ _ h _ kV (CN 2<|VV iC<|KK mk2 amB<|CN 4<|LL ft<|CN 3<|VV ln7<|KK mk8 agz<|EE Zs<|CC<|ZZ) k!) k!) ch ⟨jk,fJ,by omega⟩ (P:=fun hh=>b8 hh .i64 3 z10 (aL ab (fV ab ab.length 0 (List.replicate ab.length 0)) (List.replicate ab.length false))∧hU 3 h hh z10 (zs .i64 (aL ab (fV ab ab.length 0 (List.replicate ab.length 0)) (List.replicate ab.length false)))) ⟨oz.zs o! k! k!,oz⟩ fun v=>⟨oz.YW v k! k!,oz.YZ v⟩⟩
end
end Go.Proofs.aQ
