import Derived.Test.YthapgpflpcffnaaGreatDoorA8
import Derived.Test.YthapgpflpcffnaaGreatDoorW0
import Derived.Test.YthapgpflpcffnaaGreatDoorEnv
import Derived.Test.YthapgpflpcffnaaGreatDoorW2
namespace Go.Proofs.aP
open Go.Proofs Ab
noncomputable section
set_option maxRecDepth 100000
set_option maxHeartbeats 4000000
set_option linter.unusedVariables false
set_option linter.unusedSimpArgs false
def mz:Code:=(Tryz.f159.body).getD .skip
theorem AT:Tryz.f159.body=some mz:=by kernel_rfl
def n7:Code:=(Tryz.f161.body).getD .skip
theorem D2:Tryz.f161.body=some n7:=by kernel_rfl
def mA:Code:=(Tryz.f133.body).getD .skip
theorem AU:Tryz.f133.body=some mA:=by kernel_rfl
def mB:Code:=(Tryz.f132.body).getD .skip
theorem AW:Tryz.f132.body=some mB:=by kernel_rfl
theorem E6 {t:TypeId} {c d:Bool} {j:IntKind} {a s:Nat} {x y:Int} (hx:x=(a:Int)) (hy:y=(s:Int)∧s≤64):aJ env .shr t c d (some (.int .i64 x)) (some (.int j y))=some (.int .i64 ((a/2^s:Nat):Int)):=by
 obtain ⟨rfl,hs⟩:=hy
 subst hx
 have h1:min s 64=s:=by omega
 have h2:((a:Int).fdiv (2^s))=((a/2^s:Nat):Int):=by
  rw[Int.fdiv_eq_ediv_of_nonneg _ (Int.pow_nonneg (by decide))]
  norm_cast
 simp only[aJ,eT,Int.toNat_natCast]
 rw[if_neg o!]
 show some (AV.int .i64 ((a:Int).fdiv (2^(min s 64))))=_
 rw[h1,h2]
theorem pn {N:Nat} {e:TypeId} {i z:Nat} (hs:bb env e=some 1) (hz:z<N):bD env (some (.array N e)) (some (.ptr i 0)) (some (.int .i64 (z:Nat)))=some (.ptr i z):=by
 simp only[bD,hs]
 rw[if_pos ⟨by omega,by omega⟩,Int.toNat_natCast,Nat.zero_add,Nat.mul_one]
theorem na {t e:TypeId} {p N lo hi w c:Nat} {LX D3:Option AV} (ht:env.P.underlying t=some (.array N e)) (hs:bb env e=some 1) (hl:LX=some (.int .i64 (lo:Nat))∨LX=none∧lo=0) (hh:D3=some (.int .i64 (hi:Nat))∨D3=none∧hi=N) (h1:lo≤hi∧hi≤N) (h3:lo<N) (hw:w=hi - lo) (hc:c=N - lo):
 bP env t (.ptr p 0) LX D3 none=some (.slice p lo w c false):=by
 subst hw hc
 simp only[bP,ht,hs,gE (len:=N) (cap:=N) LX D3 hl hh h1.1 h1.2]
 rw[if_neg o!,Nat.zero_add,Nat.mul_one]
def PJ (l:List Nat):List UInt8:=l.map UInt8.ofNat
def vw (h:ah) (i o n:Nat):Option AV:=match mM h i o n with
 | some l=>some (.str l)
 | none=>none
theorem wy {F:AV→Option UInt8} (hF:∀x:Nat,F (.int .u8 (x:Int))=some (UInt8.ofNat x)):∀(l:List Nat),bO F (aO .u8 l)=some (PJ l)
 | []=>rfl
 | x::l=>by
   have:=wy hF l
   simp only[aO,List.map_cons,bO] at this ⊢
   rw[this,hF]
   rfl
theorem AX {h:ah} {p o n:Nat} {R:List Nat} {f:TypeId} {ro:Bool} (hg:h.get p=some (.cells (aO .u8 R) f ro)) (hn:o+n≤R.length):vw h p o n=some (.str (PJ ((R.drop o).take n))):=by
 have e:((aO .u8 R).drop o).take n=aO .u8 ((R.drop o).take n):=by simp [aO,List.map_take,List.map_drop]
 simp only[vw,mM,hg]
 rw[if_pos (by rw[cn];exact hn),e,wy (fun x=>by simp) _]
def jN (u:Nat):Nat:=if h:u<10 then 1 else jN (u/10)+1
termination_by u
decreasing_by omega
theorem po {u:Nat} (h:u<10):jN u=1:=by rw[jN,dif_pos h]
theorem qt {u:Nat} (h:¬u<10):jN u=jN (u/10)+1:=by rw[jN,dif_neg h]
theorem mC:∀(n u:Nat),10^n≤u→u<10^(n+1)→jN u=n+1
 | 0,u,_,h=>po (by simpa using h)
 | n+1,u,h1,h2=>by
   have h0:1≤10^n:=Nat.pow_pos (by decide)
   rw[Nat.pow_succ] at h1
   rw[qt o!,mC n (u/10) o! (by rw[Nat.pow_succ] at h2;omega)]
theorem mD:∀(u:Nat),u≠0→1≤jN u∧10^(jN u - 1)≤u∧u<10^jN u:=by
 intro u
 induction u using Nat.strongRecOn with
 | _ u ih=>
   intro hu
   by_cases q:u<10
   · rw[po q];simp;omega
   · obtain ⟨h1,h2,h3⟩:=ih (u/10) o! o!
     rw[qt q]
     refine ⟨by omega,?_,?_⟩
     · rw[show jN (u/10)+1 - 1=jN (u/10) - 1+1 by omega,Nat.pow_succ];omega
     · rw[Nat.pow_succ];omega
def lC (u:Nat):List UInt8:=PJ (dW u (jN u))
theorem Jc:∀T<20,eF.getD T 0=10^T:=by decide+kernel
theorem OM:∀L<65,0<L→L*78913/2^18<20∧(L*78913/2^18=0∨10^(L*78913/2^18 - 1)≤2^(L - 1))∧2^L≤10^(L*78913/2^18+1):=by decide+kernel
theorem AY {d:Nat} {h:ah} {x:Nat} (hx:x≤64):dJ (d+1) (.fn 159) [.int .i64 (x:Nat)] h= .ret (.int .i64 ((x*78913/2^18:Nat):Int)) h:=by
 have w1:IntKind.i64.wrap (((x:Nat):Int)*78913)=((x:Nat):Int)*78913:=(wrap_i64 o! o!)
 have u2:aJ env .shr 3 false true (some (AV.int .i64 (((x:Nat):Int)*78913))) (some (AV.int .u64 18))=some (AV.int .i64 (((x*78913) /2^18:Nat):Int)):=E6 (a:=(x*78913)) o! o!
 have ev:=pk (d) mz ((AV.int .i64 ((x:Nat):Int))::dE 5) h .ret h (CN 2<|VV (zM 3 false true w1)<|VV u2<|CC<|ZZ) (by kernel_rfl)
 exact aA rfl (aX Tryz.func159 AT (by kernel_rfl) (.inr rfl) ev (by kernel_rfl)) (Has.refl _) rfl
theorem LY {d:Nat} {h:ah} {b:Bool}:dJ (d+1) (.fn 161) [.bool b] h= .ret (.int .i64 (if b then 1 else 0)) h:=by
 cases b with
 | true=>
   have ev:=pk (d) n7 ((AV.bool true)::dE 3) h .ret h (CN 2<|TT<|CC<|ZZ) (by kernel_rfl)
   exact aA rfl (aX Tryz.func161 D2 (by kernel_rfl) (.inr rfl) ev (by kernel_rfl)) (Has.refl _) rfl
 | false=>
   have ev:=pk (d) n7 ((AV.bool false)::dE 3) h .ret h (CN 2<|FF<|CC<|ZZ) (by kernel_rfl)
   exact aA rfl (aX Tryz.func161 D2 (by kernel_rfl) (.inr rfl) ev (by kernel_rfl)) (Has.refl _) rfl
theorem rl {d:Nat} {h:ah} {u:Nat} {f:TypeId} {ro:Bool} (Jd:u≠0) (Cp:u<18446744073709551616) (hG:h.get 1=some (.cells (aO .u64 eF) f ro)):
 dJ (d+2) (.fn 133) [.int .u64 (u:Nat)] h= .ret (.int .i64 (jN u:Nat)) h:=by
 obtain ⟨L,kL,bL,hL⟩:=LJ (d:=d) (h:=h) u Cp
 obtain ⟨Za,Zb,Zc⟩:0<L∧2^(L - 1)≤u∧u<2^L:=by
  rcases bL with ⟨h1,_⟩ | h1
  · exact absurd h1 Jd
  · exact h1
 obtain ⟨t1,t2,t3⟩:=OM L o! Za
 have kT:=AY (d:=d) (h:=h) hL
 obtain ⟨T,hT⟩:∃T,T=L*78913/2^18:=⟨_,rfl⟩
 rw[←hT] at t1 t2 t3 kT
 obtain ⟨P,hP⟩:∃P,P=10^T:=⟨_,rfl⟩
 have kP:=EZ (E:=env) (t:=12) (i:=T) (by kernel_rfl) hG (show T<20 from t1)
 rw[Jc T t1,←hP] at kP
 obtain ⟨B2,Tb⟩:∃B2:Nat,B2=if P≤u then 1 else 0:=⟨_,rfl⟩
 have hB1:B2≤1:=by rw[Tb];split<;>omega
 have kB:dJ (d+1) (.fn 161) [.bool (decide (((P:Nat):Int)≤((u:Nat):Int)))] h= .ret (.int .i64 ((B2:Nat):Int)) h:=by
  rw[LY,Tb]
  by_cases q:P≤u
  · rw[if_pos q,decide_eq_true o!];rfl
  · rw[if_neg q,decide_eq_false o!];rfl
 have Zd:bD env (some (.array 20 54)) (some (AV.ptr 1 0)) (some (AV.int .i64 ((T:Nat):Int)))=some (AV.ptr 1 T):=pn (by kernel_rfl) o!
 have w2:IntKind.i64.wrap (((T:Nat):Int)+((B2:Nat):Int))=((T:Nat):Int)+((B2:Nat):Int):=(wrap_i64 o! o!)
 have ev:=pk (d+1) mA ((AV.int .u64 ((u:Nat):Int))::dE 14) h .ret h (CN 2<|EE kL<|EE kT<|CN 4<|VV Zd<|MM kP<|VV (cq 54 false false .u64 ((u:Nat):Int) ((P:Nat):Int))<|EE kB<|VV (kA 3 false false w2)<|CC<|ZZ) (by kernel_rfl)
 have e:((T:Nat):Int)+((B2:Nat):Int)=((jN u:Nat):Int):=by
  by_cases q:P≤u
  · rw[if_pos q] at Tb
    rw[mC T u (by rw[←hP];exact q) (Nat.lt_of_lt_of_le Zc t3)]
    omega
  · rw[if_neg q] at Tb
    have Ze:T≠0:=fun e0=>by rw[e0] at hP;simp at hP;omega
    rcases t2 with t2 | t2
    · exact absurd t2 Ze
    · rw[mC (T - 1) u (Nat.le_trans t2 Zb) (by rw[show T - 1+1=T by omega,←hP];omega)]
      omega
 rw[←e]
 exact aA rfl (aX Tryz.func133 AU (by kernel_rfl) (.inr rfl) ev (by kernel_rfl)) (Has.refl _) rfl
theorem Je {d:Nat} {h:ah} {u:Nat} (hu:u<100):dJ (d+1) (.fn 132) [.int .i64 (u:Nat)] h= .ret (.str (lC u)) h:=by
 by_cases q:u<10
 · have q1:(decide (((u:Nat):Int)<10))=true:=(dT o!)
   have w2:IntKind.i64.wrap (((u:Nat):Int)+1)=((u:Nat):Int)+1:=(wrap_i64 o! o!)
   have Zf:bP env 9 (AV.str [48,49,50,51,52,53,54,55,56,57,97,98,99,100,101,102,103,104,105,106,107,108,109,110,111,112,113,114,115,116,117,118,119,120,121,122]) (some (AV.int .i64 ((u:Nat):Int))) (some (AV.int .i64 (((u:Nat):Int)+1))) (none)=some (AV.str (List.take ((u+1) - u) (List.drop u ([48,49,50,51,52,53,54,55,56,57,97,98,99,100,101,102,103,104,105,106,107,108,109,110,111,112,113,114,115,116,117,118,119,120,121,122])))):=wi (by kernel_rfl) o! o! o! (by first | omega | (simp;omega))
   have ev:=pk (d) mB ((AV.int .i64 ((u:Nat):Int))::dE 14) h .ret h (CN 2<|VV (jt 3 false true .i64 ((u:Nat):Int) 10)<|BB q1<|CN 2<|VV (kA 3 false true w2)<|QQ Zf<|CC<|ZZ) (by kernel_rfl)
   have t:∀u<10,List.take ((u+1) - u) (List.drop u ([48,49,50,51,52,53,54,55,56,57,97,98,99,100,101,102,103,104,105,106,107,108,109,110,111,112,113,114,115,116,117,118,119,120,121,122]))=PJ (dW u 1):=by decide+kernel
   have e:lC u=List.take ((u+1) - u) (List.drop u ([48,49,50,51,52,53,54,55,56,57,97,98,99,100,101,102,103,104,105,106,107,108,109,110,111,112,113,114,115,116,117,118,119,120,121,122])):=by rw[lC,po q,t u q]
   rw[e]
   exact aA rfl (aX Tryz.func132 AW (by kernel_rfl) (.inr rfl) ev (by kernel_rfl)) (Has.refl _) rfl
 · have q1:(decide (((u:Nat):Int)<10))=false:=(dF o!)
   have w2:IntKind.i64.wrap (((u:Nat):Int)*2)=((u:Nat):Int)*2:=(wrap_i64 o! o!)
   have w3:IntKind.i64.wrap ((((u:Nat):Int)*2)+2)=(((u:Nat):Int)*2)+2:=(wrap_i64 o! o!)
   have Zg:bP env 9 (AV.str [48,48,48,49,48,50,48,51,48,52,48,53,48,54,48,55,48,56,48,57,49,48,49,49,49,50,49,51,49,52,49,53,49,54,49,55,49,56,49,57,50,48,50,49,50,50,50,51,50,52,50,53,50,54,50,55,50,56,50,57,51,48,51,49,51,50,51,51,51,52,51,53,51,54,51,55,51,56,51,57,52,48,52,49,52,50,52,51,52,52,52,53,52,54,52,55,52,56,52,57,53,48,53,49,53,50,53,51,53,52,53,53,53,54,53,55,53,56,53,57,54,48,54,49,54,50,54,51,54,52,54,53,54,54,54,55,54,56,54,57,55,48,55,49,55,50,55,51,55,52,55,53,55,54,55,55,55,56,55,57,56,48,56,49,56,50,56,51,56,52,56,53,56,54,56,55,56,56,56,57,57,48,57,49,57,50,57,51,57,52,57,53,57,54,57,55,57,56,57,57]) (some (AV.int .i64 (((u:Nat):Int)*2))) (some (AV.int .i64 ((((u:Nat):Int)*2)+2))) (none)=some (AV.str (List.take ((u*2+2) -(u*2)) (List.drop (u*2) ([48,48,48,49,48,50,48,51,48,52,48,53,48,54,48,55,48,56,48,57,49,48,49,49,49,50,49,51,49,52,49,53,49,54,49,55,49,56,49,57,50,48,50,49,50,50,50,51,50,52,50,53,50,54,50,55,50,56,50,57,51,48,51,49,51,50,51,51,51,52,51,53,51,54,51,55,51,56,51,57,52,48,52,49,52,50,52,51,52,52,52,53,52,54,52,55,52,56,52,57,53,48,53,49,53,50,53,51,53,52,53,53,53,54,53,55,53,56,53,57,54,48,54,49,54,50,54,51,54,52,54,53,54,54,54,55,54,56,54,57,55,48,55,49,55,50,55,51,55,52,55,53,55,54,55,55,55,56,55,57,56,48,56,49,56,50,56,51,56,52,56,53,56,54,56,55,56,56,56,57,57,48,57,49,57,50,57,51,57,52,57,53,57,54,57,55,57,56,57,57])))):=wi (by kernel_rfl) o! o! o! (by first | omega | (simp;omega))
   have ev:=pk (d) mB ((AV.int .i64 ((u:Nat):Int))::dE 14) h .ret h (CN 2<|VV (jt 3 false true .i64 ((u:Nat):Int) 10)<|BB q1<|CC<|VV (zM 3 false true w2)<|CC<|VV (zM 3 false true w2)<|VV (kA 3 false true w3)<|QQ Zg<|CC<|ZZ) (by kernel_rfl)
   have t:∀u<100,¬u<10→List.take ((u*2+2) -(u*2)) (List.drop (u*2) ([48,48,48,49,48,50,48,51,48,52,48,53,48,54,48,55,48,56,48,57,49,48,49,49,49,50,49,51,49,52,49,53,49,54,49,55,49,56,49,57,50,48,50,49,50,50,50,51,50,52,50,53,50,54,50,55,50,56,50,57,51,48,51,49,51,50,51,51,51,52,51,53,51,54,51,55,51,56,51,57,52,48,52,49,52,50,52,51,52,52,52,53,52,54,52,55,52,56,52,57,53,48,53,49,53,50,53,51,53,52,53,53,53,54,53,55,53,56,53,57,54,48,54,49,54,50,54,51,54,52,54,53,54,54,54,55,54,56,54,57,55,48,55,49,55,50,55,51,55,52,55,53,55,54,55,55,55,56,55,57,56,48,56,49,56,50,56,51,56,52,56,53,56,54,56,55,56,56,56,57,57,48,57,49,57,50,57,51,57,52,57,53,57,54,57,55,57,56,57,57]))=PJ (dW u 2):=by decide+kernel
   have e:lC u=List.take ((u*2+2) -(u*2)) (List.drop (u*2) ([48,48,48,49,48,50,48,51,48,52,48,53,48,54,48,55,48,56,48,57,49,48,49,49,49,50,49,51,49,52,49,53,49,54,49,55,49,56,49,57,50,48,50,49,50,50,50,51,50,52,50,53,50,54,50,55,50,56,50,57,51,48,51,49,51,50,51,51,51,52,51,53,51,54,51,55,51,56,51,57,52,48,52,49,52,50,52,51,52,52,52,53,52,54,52,55,52,56,52,57,53,48,53,49,53,50,53,51,53,52,53,53,53,54,53,55,53,56,53,57,54,48,54,49,54,50,54,51,54,52,54,53,54,54,54,55,54,56,54,57,55,48,55,49,55,50,55,51,55,52,55,53,55,54,55,55,55,56,55,57,56,48,56,49,56,50,56,51,56,52,56,53,56,54,56,55,56,56,56,57,57,48,57,49,57,50,57,51,57,52,57,53,57,54,57,55,57,56,57,57])):=by rw[lC,qt q,po o!,t u hu q]
   rw[e]
   exact aA rfl (aX Tryz.func132 AW (by kernel_rfl) (.inr rfl) ev (by kernel_rfl)) (Has.refl _) rfl
def fw:Code:=(Tryz.f82.body).getD .skip
theorem kU:Tryz.f82.body=some fw:=by kernel_rfl
def mE:Code:=(Tryz.f59.body).getD .skip
theorem AZ:Tryz.f59.body=some mE:=by kernel_rfl
theorem uD {n:Nat} (hn:n≤23):Holds .u8 (aO .u8 (List.replicate 24 0)) 1 (List.replicate n 0):=fun i z hz=>by
 rw[List.getElem?_replicate] at hz
 split at hz
 · cases hz
   exact gZ (by rw[List.getElem?_replicate,if_pos o!])
 · cases hz
theorem wz {n:Nat} {D:List Nat} (hn:n≤23) (hD:D.length=n):setFrom (aO .u8 (List.replicate 24 0)) 1 (aO .u8 D)=aO .u8 (0::(D++List.replicate (23 - n) 0)):=by
 rw[HY (by rw[List.length_replicate];omega),hD,List.drop_replicate,show 24 -(1+n)=23 - n by omega]
 rfl
theorem Jf {h:ah} {p n u:Nat} {f:TypeId} {ro:Bool} (hn:n=jN u) (Tv:n≤23) (hg:h.get p=some (.cells (aO .u8 (0::(dW u n++List.replicate (23 - n) 0))) f ro)):vw h p 1 n=some (.str (lC u)):=by
 have e:((0::(dW u n++List.replicate (23 - n) 0)).drop 1).take n=dW u n:=by
  rw[List.drop_succ_cons,List.drop_zero,List.take_append_of_le_length (by rw[jM];omega),List.take_of_length_le (by rw[jM];omega)]
 have:=AX (o:=1) (n:=n) hg (by simp [jM];omega)
 rw[e] at this
 rw[this,lC,←hn]
theorem Jg {h:ah} {p n u:Nat} {f:TypeId} {ro:Bool} (hn:n=jN u) (Tv:n≤23) (hg:h.get p=some (.cells (aO .u8 ((0::(dW u n++List.replicate (23 - n) 0)).set 0 45)) f ro)):vw h p 0 (n+1)=some (.str (45::lC u)):=by
 have e:(((0::(dW u n++List.replicate (23 - n) 0)).set 0 45).drop 0).take (n+1)=45::dW u n:=by
  rw[List.drop_zero,List.set_cons_zero,List.take_succ_cons,List.take_append_of_le_length (by rw[jM];omega),List.take_of_length_le (by rw[jM];omega)]
 have:=AX (o:=0) (n:=n+1) hg (by simp only[List.length_set,List.length_cons,List.length_append,jM,List.length_replicate];omega)
 rw[e] at this
 rw[this,lC,←hn]
 rfl
theorem n8 {u:Nat} (Jd:u≠0) (Cp:u<18446744073709551616):jN u≤20:=by
 obtain ⟨n1,n2,n3⟩:=mD u Jd
 have:10^(jN u - 1)<10^20:=Nat.lt_of_le_of_lt n2 (Nat.lt_trans Cp (by decide))
 have:=(Nat.pow_lt_pow_iff_right (by decide:1<10)).1 this
 omega
theorem iB (x:Int):IntKind.u64.wrap x=x%18446744073709551616:=by
 show (if (false&&decide (x%2^64≥2^63))=true then x%2^64 - 2^64 else x%2^64)=_
 rw[if_neg (by simp)]
 omega
def RR (m:Bool) (u:Nat):List UInt8:=if m then 45::lC u else lC u
theorem yG {d:Nat} {h:ah} {u:Nat} {f:TypeId} {ro:Bool} (Zj:u<9223372036854775808) (hG:h.get 1=some (.cells (aO .u64 eF) f ro)) (dL:Tidy h):
 dJ (d+4) (.fn 82) [.int .i64 (u:Nat),.int .i64 10] h= .ret (.str (lC u)) h:=by
 by_cases hu:u<100
 · have q1:(decide (0≤((u:Nat):Int)))=true:=(dT o!)
   have q2:(decide (((u:Nat):Int)<100))=true:=(dT o!)
   have ev:=pk (d+3) fw ((AV.int .i64 ((u:Nat):Int))::(AV.int .i64 10)::dE 52) h .ret h (CN 3<|TT<|CC<|VV (yq 2 true false .i64 0 ((u:Nat):Int))<|CC<|BB q1<|CC<|BB q1<|VV (jt 2 false true .i64 ((u:Nat):Int) 100)<|VV (yf (a:=some (AV.bool (decide (((u:Nat):Int)<100)))) (b:=some (AV.bool false)) q1)<|BB q2<|CC<|EE (show (dJ (d+3)) (.fn 132) [(AV.int .i64 ((u:Nat):Int))] h= .ret (AV.str (lC u)) h from (Je (d:=d+2) hu))<|CC<|ZZ) (by kernel_rfl)
   exact aA rfl (aX Tryz.func82 kU (by kernel_rfl) (.inr rfl) ev (by kernel_rfl)) (Has.refl _) rfl
 · have Jd:u≠0:=by omega
   have Cp:u<18446744073709551616:=by omega
   have uE:=n8 Jd Cp
   obtain ⟨n1,n2,RS⟩:=mD u Jd
   obtain ⟨n,hn⟩:∃n,n=jN u:=⟨_,rfl⟩
   rw[←hn] at n1 n2 RS uE
   replace uE:n≤23:=by omega
   have ew:IntKind.u64.wrap ((u:Nat):Int)=((u:Nat):Int):=by rw[iB];omega
   clear n2
   have q1:(decide (0≤((u:Nat):Int)))=true:=(dT o!)
   have q2:(decide (((u:Nat):Int)<100))=false:=(dF o!)
   obtain ⟨h3,Vf,Vg,Zk,Vh,Vi⟩:=DP dL (aF.cells [(AV.int .u8 0),(AV.int .u8 0),(AV.int .u8 0),(AV.int .u8 0),(AV.int .u8 0),(AV.int .u8 0),(AV.int .u8 0),(AV.int .u8 0),(AV.int .u8 0),(AV.int .u8 0),(AV.int .u8 0),(AV.int .u8 0),(AV.int .u8 0),(AV.int .u8 0),(AV.int .u8 0),(AV.int .u8 0),(AV.int .u8 0),(AV.int .u8 0),(AV.int .u8 0),(AV.int .u8 0),(AV.int .u8 0),(AV.int .u8 0),(AV.int .u8 0),(AV.int .u8 0)] 211 false)
   have RU:Has h h3:=Vi
   have RV:h3.get h.nx=some (aF.cells (aO .u8 (List.replicate 24 0)) 211 false):=Vh
   have q4:(decide (((u:Nat):Int)<0))=false:=(dF o!)
   have w5:IntKind.i64.wrap (1+((n:Nat):Int))=1+((n:Nat):Int):=(wrap_i64 o! o!)
   have Zl:bP env 211 (AV.ptr h.nx 0) (some (AV.int .i64 1)) (some (AV.int .i64 (1+((n:Nat):Int)))) (none)=some (AV.slice h.nx 1 n 23 false):=na (e:=5) (N:=24) (lo:=1) (hi:=(n+1)) (by kernel_rfl) (by kernel_rfl) (.inl rfl) (.inl (by rw[show ((1+((n:Nat):Int)):Int)=(((n+1):Nat):Int) by omega])) o! o! o! o!
   obtain ⟨h7,RW,ON,Ou⟩:=Jb (d:=d+2) (l:=List.replicate n 0) (u:=u) (p:=h.nx) (o:=1) (n:=n) (c:=23) (op:=false) (C:=aO .u8 (List.replicate 24 0)) (f:=211) (by simp) o! (by rw[cn,List.length_replicate];omega) (uD uE) RV RS Cp Vg
   have qq:=ON.1
   rw[←ew] at RW
   have Nd:=ON.2.1
   rw[wz uE (jM _ _)] at Nd
   have kQ:Has h h7:=ON.has RU dL o!
   have Zm:bP env 211 (AV.ptr h.nx 0) (some (AV.int .i64 1)) (some (AV.int .i64 (1+((n:Nat):Int)))) (none)=some (AV.slice h.nx 1 n 23 false):=na (e:=5) (N:=24) (lo:=1) (hi:=(n+1)) (by kernel_rfl) (by kernel_rfl) (.inl rfl) (.inl (by rw[show ((1+((n:Nat):Int)):Int)=(((n+1):Nat):Int) by omega])) o! o! o! o!
   have Zo:vw h7 h.nx 1 n=some (AV.str (lC u)):=Jf hn uE Nd
   have ev:=pk (d+3) fw ((AV.int .i64 ((u:Nat):Int))::(AV.int .i64 10)::dE 52) h .ret h7 (CN 3<|TT<|CC<|VV (yq 2 true false .i64 0 ((u:Nat):Int))<|CC<|BB q1<|CC<|BB q1<|VV (jt 2 false true .i64 ((u:Nat):Int) 100)<|VV (yf (a:=some (AV.bool (decide (((u:Nat):Int)<100)))) (b:=some (AV.bool false)) q1)<|BB q2<|NN Vf (fun i=>(AV.ptr i 0))<|CN 4<|VV (jt 2 false true .i64 ((u:Nat):Int) 0)<|BB q4<|CC<|EE (show (dJ (d+3)) (.fn 133) [(AV.int .u64 (IntKind.u64.wrap ((u:Nat):Int)))] h3= .ret (AV.int .i64 ((n:Nat):Int)) h3 from (by rw[ew,hn];exact rl (d:=d+1) Jd Cp (RU _ _ hG)))<|CN 2<|VV (kA 3 true false w5)<|QQ Zl<|CC<|EE RW<|CC<|VV (jt 2 false true .i64 ((u:Nat):Int) 0)<|BB q4<|CC<|VV (kA 3 true false w5)<|QQ Zm<|MM Zo<|CC<|ZZ) (by kernel_rfl)
   exact aA rfl (aX Tryz.func82 kU (by kernel_rfl) (.inr rfl) ev (by kernel_rfl)) kQ rfl
theorem yH {d:Nat} {h:ah} {u:Nat} {f:TypeId} {ro:Bool} (Jd:u≠0) (Zj:u≤9223372036854775808) (hG:h.get 1=some (.cells (aO .u64 eF) f ro)) (dL:Tidy h):
 dJ (d+4) (.fn 82) [.int .i64 (-((u:Nat):Int)),.int .i64 10] h= .ret (.str (45::lC u)) h:=by
 have Cp:u<18446744073709551616:=by omega
 have uE:=n8 Jd Cp
 obtain ⟨n1,n2,RS⟩:=mD u Jd
 obtain ⟨n,hn⟩:∃n,n=jN u:=⟨_,rfl⟩
 rw[←hn] at n1 n2 RS uE
 replace uE:n≤23:=by omega
 have ew:IntKind.u64.wrap (0 - IntKind.u64.wrap (-((u:Nat):Int)))=((u:Nat):Int):=by rw[iB,iB];omega
 clear n2
 have q1:(decide (0≤(-((u:Nat):Int))))=false:=(dF o!)
 obtain ⟨h2,Vj,Vk,Zp,Vl,Vm⟩:=DP dL (aF.cells [(AV.int .u8 0),(AV.int .u8 0),(AV.int .u8 0),(AV.int .u8 0),(AV.int .u8 0),(AV.int .u8 0),(AV.int .u8 0),(AV.int .u8 0),(AV.int .u8 0),(AV.int .u8 0),(AV.int .u8 0),(AV.int .u8 0),(AV.int .u8 0),(AV.int .u8 0),(AV.int .u8 0),(AV.int .u8 0),(AV.int .u8 0),(AV.int .u8 0),(AV.int .u8 0),(AV.int .u8 0),(AV.int .u8 0),(AV.int .u8 0),(AV.int .u8 0),(AV.int .u8 0)] 211 false)
 have RX:Has h h2:=Vm
 have RY:h2.get h.nx=some (aF.cells (aO .u8 (List.replicate 24 0)) 211 false):=Vl
 have q3:(decide ((-((u:Nat):Int))<0))=true:=(dT o!)
 have w4:IntKind.i64.wrap (1+((n:Nat):Int))=1+((n:Nat):Int):=(wrap_i64 o! o!)
 have Zq:bP env 211 (AV.ptr h.nx 0) (some (AV.int .i64 1)) (some (AV.int .i64 (1+((n:Nat):Int)))) (none)=some (AV.slice h.nx 1 n 23 false):=na (e:=5) (N:=24) (lo:=1) (hi:=(n+1)) (by kernel_rfl) (by kernel_rfl) (.inl rfl) (.inl (by rw[show ((1+((n:Nat):Int)):Int)=(((n+1):Nat):Int) by omega])) o! o! o! o!
 obtain ⟨h6,RZ,Cw,LI⟩:=Jb (d:=d+2) (l:=List.replicate n 0) (u:=u) (p:=h.nx) (o:=1) (n:=n) (c:=23) (op:=false) (C:=aO .u8 (List.replicate 24 0)) (f:=211) (by simp) o! (by rw[cn,List.length_replicate];omega) (uD uE) RY RS Cp Vk
 have vu:=Cw.1
 rw[←ew] at RZ
 have Jh:=Cw.2.1
 rw[wz uE (jM _ _)] at Jh
 have tJ:Has h h6:=Cw.has RX dL o!
 have Q7:bD env (some (.array 24 5)) (some (AV.ptr h.nx 0)) (some (AV.int .i64 0))=some (AV.ptr h.nx 0):=pn (z:=0) (by kernel_rfl) o!
 obtain ⟨h8,OO⟩:∃hh:ah,hh=h6.put h.nx (some (aF.cells (aO .u8 ((0::(dW u n++List.replicate (23 - n) 0)).set 0 45)) 211 false)):=⟨_,rfl⟩
 have Vn:aQ env h6 5 (AV.ptr h.nx 0) (AV.int .u8 45)=some h8:=by rw[OO];exact Cg (by kernel_rfl) Jh (show 0<(0::(dW u n++List.replicate (23 - n) 0)).length by simp)
 have OP:iE h6 h8 h.nx (aF.cells (aO .u8 ((0::(dW u n++List.replicate (23 - n) 0)).set 0 45)) 211 false):=by rw[OO];exact bj vu Jh
 have OQ:=OP.1
 have Zr:h8.nx=h6.nx:=by rw[OO];rfl
 have Cx:Has h h8:=OP.has tJ dL o!
 have UN:bP env 211 (AV.ptr h.nx 0) (none) (some (AV.int .i64 (1+((n:Nat):Int)))) (none)=some (AV.slice h.nx 0 (n+1) 24 false):=na (e:=5) (N:=24) (lo:=0) (hi:=(n+1)) (by kernel_rfl) (by kernel_rfl) (.inr ⟨rfl,rfl⟩) (.inl (by rw[show ((1+((n:Nat):Int)):Int)=(((n+1):Nat):Int) by omega])) o! o! o! o!
 have Vo:vw h8 h.nx 0 (n+1)=some (AV.str (45::lC u)):=Jg hn uE OP.2.1
 have ev:=pk (d+3) fw ((AV.int .i64 (-((u:Nat):Int)))::(AV.int .i64 10)::dE 52) h .ret h8 (CN 3<|TT<|CC<|VV (yq 2 true false .i64 0 (-((u:Nat):Int)))<|CC<|BB q1<|BB q1<|VV (aW (a:=some AV.undef) (b:=some (AV.bool false)) q1)<|FF<|NN Vj (fun i=>(AV.ptr i 0))<|CN 4<|VV (jt 2 false true .i64 (-((u:Nat):Int)) 0)<|BB q3<|CN 4<|EE (show (dJ (d+3)) (.fn 133) [(AV.int .u64 (IntKind.u64.wrap (0 -(IntKind.u64.wrap (-((u:Nat):Int))))))] h2= .ret (AV.int .i64 ((n:Nat):Int)) h2 from (by rw[ew,hn];exact rl (d:=d+1) Jd Cp (RX _ _ hG)))<|CN 2<|VV (kA 3 true false w4)<|QQ Zq<|CC<|EE RZ<|CC<|VV (jt 2 false true .i64 (-((u:Nat):Int)) 0)<|BB q3<|VV Q7<|SS Vn<|CC<|VV (kA 3 true false w4)<|QQ UN<|MM Vo<|CC<|ZZ) (by kernel_rfl)
 exact aA rfl (aX Tryz.func82 kU (by kernel_rfl) (.inr rfl) ev (by kernel_rfl)) Cx rfl
def ig (z:Int):List UInt8:=RR (decide (z<0)) z.natAbs
theorem pq {d:Nat} {h:ah} {z:Int} {f:TypeId} {ro:Bool} (h1: -9223372036854775808≤z) (h2:z<9223372036854775808) (hG:h.get 1=some (.cells (aO .u64 eF) f ro)) (dL:Tidy h):
 dJ (d+4) (.fn 82) [.int .i64 z,.int .i64 10] h= .ret (.str (ig z)) h:=by
 unfold ig
 by_cases q:z<0
 · rw[decide_eq_true q]
   have:=yH (d:=d) (u:=z.natAbs) o! o! hG dL
   rw[show (-((z.natAbs:Nat):Int))=z by omega] at this
   exact this
 · rw[decide_eq_false q]
   have:=yG (d:=d) (u:=z.natAbs) o! hG dL
   rw[show ((z.natAbs:Nat):Int)=z by omega] at this
   exact this
theorem A0 {d:Nat} {h:ah} {z:Int} {f:TypeId} {ro:Bool} (h1: -9223372036854775808≤z) (h2:z<9223372036854775808) (hG:h.get 1=some (.cells (aO .u64 eF) f ro)) (dL:Tidy h):
 dJ (d+5) (.fn 59) [.int .i64 z,.int .i64 10] h= .ret (.str (ig z)) h:=by
 have ev:=pk (d+4) mE ((AV.int .i64 z)::(AV.int .i64 10)::dE 6) h .ret h (CN 3<|EE (show (dJ (d+4)) (.fn 82) [(AV.int .i64 z),(AV.int .i64 10)] h= .ret (AV.str (ig z)) h from pq (d:=d) h1 h2 hG dL)<|CC<|ZZ) (by kernel_rfl)
 exact aA rfl (aX Tryz.func59 AZ (by kernel_rfl) (.inr rfl) ev (by kernel_rfl)) (Has.refl _) rfl
def yI:Code:=(Tryz.f81.body).getD .skip
theorem E7:Tryz.f81.body=some yI:=by kernel_rfl
def pr (i:Int):List UInt8:=(ig i)
theorem E8 {d:Nat} {h:ah} (i:Int) (hG:h.get 1=some (aF.cells (aO .u64 eF) 236 true)) (OS: -9223372036854775808≤i) (OT:i<9223372036854775808) (dL:Tidy h):dJ (d+5) (.fn 81) [(Zi i)] h= .ret (AV.str (pr i)) h:=by
 have k1:=pq (d:=d) (z:=i) o! o! hG dL
 have e:pr i=(ig i):=by simp only[pr,ar,ao]
 rw[e]
 exact aA rfl (aX Tryz.func81 E7 rfl (.inr rfl) (pk (d+4) _ _ h _ h (CN 2<|EE k1<|CC<|ZZ) k!) k!) (Has.refl _) rfl
theorem wB {p:Prop} (h:p:=by first | omega | assumption | (simp only[List.length_set,List.length_replicate,List.length_append,List.length_cons,List.length_nil,List.nil_append]<;>omega) | (rw[List.length_take];omega)):p:=h
def A1:Code:=(Tryz.f58.body).getD .skip
theorem Ji:Tryz.f58.body=some A1:=by kernel_rfl
def dD (i:Int):List UInt8:=(pr i)
theorem Jj {d:Nat} {h:ah} (i:Int) (hG:h.get 1=some (aF.cells (aO .u64 eF) 236 true)) (OS: -9223372036854775808≤i) (OT:i<9223372036854775808) (dL:Tidy h):dJ (d+6) (.fn 58) [(Zi i)] h= .ret (AV.str (dD i)) h:=by
 have k1:=E8 (d:=d) i hG wB wB dL
 have e:dD i=(pr i):=by simp only[dD,ar,ao]
 rw[e]
 exact aA rfl (aX Tryz.func58 Ji rfl (.inr rfl) (pk (d+5) _ _ h _ h (CN 2<|EE k1<|CC<|ZZ) k!) k!) (Has.refl _) rfl
def aB (a b:Int):Int:=IntKind.u64.wrap ((BitVec.ofInt IntKind.u64.bits a^^^BitVec.ofInt IntKind.u64.bits b).toNat:Nat)
def ax (a b:Int):Int:=IntKind.u64.wrap ((BitVec.ofInt IntKind.u64.bits a&&& BitVec.ofInt IntKind.u64.bits b).toNat:Nat)
def ai (x n:Int):Int:=x.fdiv (2^(min n.toNat IntKind.u64.bits))
def m64 (a b:Int):Int:=IntKind.u64.wrap (a*b)
def ae (l:List UInt8):List Int:=l.map fun b=>((b.toNat:Nat):Int)
theorem dt (l:List UInt8):(ae l).length=l.length:=List.length_map ..
theorem wC (l:List UInt8):List.map (fun b=>AV.int .u8 b.toNat) l=zs .u8 (ae l):=by
 rw[zs,ae,List.map_map];rfl
theorem OV {d:Nat} {h:ah} {q n c:Nat} {op:Bool} {l:List (List UInt8)} {sep:List UInt8} {el:TypeId} {ro:Bool} (hg:h.get q=some (.cells (l.map .str) el ro)) (hn:l.length=n) (hc:n≤c) (Qi:n≤100000) (hl:(Lib.join l sep).length≤1000000000):
 dJ (d+1) (.fn 60) [.slice q 0 n c op,.str sep] h= .ret (.str (Lib.join l sep)) h:=by
 have e:M0 60 [.slice q 0 n c op,.str sep] h=some (.str (Lib.join l sep),h):=by
  show Az [.slice q 0 n c op,.str sep] h=_
  subst hn
  unfold Az
  simp only[hg,List.length_map,Nat.zero_add]
  rw[if_pos ⟨Nat.le_refl _,hc,Qi⟩,List.drop_zero,List.take_of_length_le (by rw[List.length_map];exact Nat.le_refl _),Ay]
  simp only[hl,if_true]
 show dK env M0 (d+1) (.fn 60) _ h=_
 simp only[dK,e]
theorem qu {d:Nat} {h:ah} (hG:h.get 1=some (aF.cells (aO .u64 eF) 236 true)):dJ (d+1) (.fn 5) [] h= .ret (.bool true) h:=by
 have e:M0 5 [] h=some (.bool true,h):=by
  show HZ [] h=_
  unfold HZ
  rw[HV hG]
 show dK env M0 (d+1) (.fn 5) _ h=_
 simp only[dK,e]
theorem pt {z:Int} (h1: -9223372036854775808≤z) (h2:z<9223372036854775808):(ig z).length≤30:=by
 have hd:∀u<18446744073709551616,(lC u).length≤20:=fun u hu=>by
  rw[lC,PJ,List.length_map,jM]
  by_cases q:u=0
  · subst q;decide+kernel
  · exact n8 q hu
 unfold ig RR
 have:=hd z.natAbs o!
 split
 · rw[List.length_cons];omega
 · omega
theorem A2 {a b c d e:List UInt8} {n:Nat} (ha:a.length≤n) (hb:b.length≤n) (hc:c.length≤n) (hd:d.length≤n) (he:e.length≤n):(Lib.join [a,b,c,d,e] [32]).length≤5*n+4:=by
 simp only[Lib.join_cons,Lib.joinTail,List.map_cons,List.map_nil,List.flatten_cons,List.flatten_nil,List.length_append,List.length_cons,List.length_nil]
 omega
theorem Vq (t:TypeId) (c d:Bool) (a b:List UInt8) (h:a.length+b.length<1099511627776):aJ env .add t c d (some (.str a)) (some (.str b))=some (.str (a++b)):=by
 simp [aJ,eT,lG,h]
theorem rm {p:Prop} (h:p:=by first | omega | assumption | (simp only[List.length_set,List.length_replicate,List.length_append,List.length_cons,List.length_nil,List.nil_append]<;>omega) | (rw[List.length_take];omega)):p:=h
def vx:Code:=(Tryz.f28.body).getD .skip
theorem Cy:Tryz.f28.body=some vx:=by kernel_rfl
def aN (f:Fact):List UInt8:=((Lib.join [(dD f.time),f.kind,f.item,f.ag,(ig f.number)] [32])++[10])
theorem Cz {d:Nat} {h:ah} (f:Fact) (PF:aw.ok h f) (hG:h.get 1=some (aF.cells (aO .u64 eF) 236 true)) (OS:f.kind.length≤1000) (OT:f.item.length≤1000) (Vr:f.ag.length≤1000) (Vs:0≤f.time) (Vt:f.time≤1000000) (Vu: -9223372036854775808≤f.number) (pre6:f.number<9223372036854775808) (dL:Tidy h):dJ (d+7) (.fn 28) [(AV.agg [(Zi f.time),(AV.str f.kind),(AV.str f.item),(AV.str f.ag),(Zi f.number)])] h= .ret (AV.str (aN f)) h:=by
 obtain ⟨h1,H9,rK,Q8,gK,H_⟩:=DP dL (aF.cells [(Zi f.time),(AV.str f.kind),(AV.str f.item),(AV.str f.ag),(Zi f.number)] 33 false)
 have mo:Has h h1:=H_
 have Xb:(dD f.time).length≤30:=pt o! o!
 have k2:=Jj (d:=d) f.time (mo _ _ hG) rm rm rK
 have k3:=A0 (d:=d+1) (z:=f.number) o! o! (mo _ _ hG) rK
 have Xc:(ig f.number).length≤30:=pt o! o!
 obtain ⟨h4,Vv,Zt,Zu,R0,LZ⟩:=DP rK (aF.cells [(AV.str (dD f.time)),(AV.str f.kind),(AV.str f.item),(AV.str f.ag),(AV.str (ig f.number))] 9 false)
 have Vw:Has h h4:=mo.trans LZ
 have Xd:(Lib.join [(dD f.time),f.kind,f.item,f.ag,(ig f.number)] [32]).length≤5*1000+4:=A2 o! o! o! o! o!
 have k5:=OV (d:=d+5) (q:=h1.nx) (l:=[(dD f.time),f.kind,f.item,f.ag,(ig f.number)]) (sep:=[32]) (n:=5) (c:=5) (op:=false) R0 rfl (by decide) (by decide) o!
 have u6:=Vq 9 false true (Lib.join [(dD f.time),f.kind,f.item,f.ag,(ig f.number)] [32]) [10] (by first | omega | (simp;omega))
 have e:aN f=((Lib.join [(dD f.time),f.kind,f.item,f.ag,(ig f.number)] [32])++[10]):=by simp only[aN,ar,ao]
 rw[e]
 exact aA rfl (aX Tryz.func28 Cy rfl (.inr rfl) (pk (d+6) _ _ h _ h4 (NN H9 (fun i=>(Pt i))<|CN 2<|MM (fL 3 0 (Zi f.time) gK k!)<|CC<|MM (fL 9 1 (AV.str f.kind) gK k!)<|CC<|MM (fL 9 2 (AV.str f.item) gK k!)<|CC<|MM (fL 9 3 (AV.str f.ag) gK k!)<|CC<|MM (fL 2 4 (Zi f.number) gK k!)<|EE k2<|EE k3<|NN Vv (fun i=>(AV.slice i 0 5 5 false))<|CC<|HH (fL 3 0 (Zi f.time) gK k!)<|HH (show AV.same 20 (Zi f.time) (Zi f.time)=true from dA 19 _ _)<|HH (fL 9 1 (AV.str f.kind) gK k!)<|HH (show AV.same 20 (AV.str f.kind) (AV.str f.kind)=true from az 19 _)<|HH (fL 9 1 (AV.str f.kind) gK k!)<|HH (show AV.same 20 (AV.str f.kind) (AV.str f.kind)=true from az 19 _)<|HH (fL 9 1 (AV.str f.kind) (LZ _ _ gK) k!)<|HH (show AV.same 20 (AV.str f.kind) (AV.str f.kind)=true from az 19 _)<|HH (fL 9 2 (AV.str f.item) gK k!)<|HH (show AV.same 20 (AV.str f.item) (AV.str f.item)=true from az 19 _)<|HH (fL 9 2 (AV.str f.item) gK k!)<|HH (show AV.same 20 (AV.str f.item) (AV.str f.item)=true from az 19 _)<|HH (fL 9 2 (AV.str f.item) (LZ _ _ gK) k!)<|HH (show AV.same 20 (AV.str f.item) (AV.str f.item)=true from az 19 _)<|HH (fL 9 3 (AV.str f.ag) gK k!)<|HH (show AV.same 20 (AV.str f.ag) (AV.str f.ag)=true from az 19 _)<|HH (fL 9 3 (AV.str f.ag) gK k!)<|HH (show AV.same 20 (AV.str f.ag) (AV.str f.ag)=true from az 19 _)<|HH (fL 9 3 (AV.str f.ag) (LZ _ _ gK) k!)<|HH (show AV.same 20 (AV.str f.ag) (AV.str f.ag)=true from az 19 _)<|HH (fL 2 4 (Zi f.number) gK k!)<|HH (show AV.same 20 (Zi f.number) (Zi f.number)=true from dA 19 _ _)<|HH (fL 2 4 (Zi f.number) gK k!)<|HH (show AV.same 20 (Zi f.number) (Zi f.number)=true from dA 19 _ _)<|HH (show ∃o,h4.get h1.nx=some o∧aF.same o (aF.cells [(AV.str (dD f.time)),(AV.str f.kind),(AV.str f.item),(AV.str f.ag),(AV.str (ig f.number))] 9 false)=true from ⟨_,R0,by simp [aF.same,bK,AV.same]⟩)<|CC<|EE k5<|VV u6<|CC<|ZZ) k!) k!) Vw rfl
theorem CA {f:Fact} (h0:f.kind.length≤1000) (h1:f.item.length≤1000) (h2:f.ag.length≤1000) (h3:0≤f.time) (h4:f.time≤1000000) (h5: -9223372036854775808≤f.number) (h6:f.number<9223372036854775808):(aN f).length≤6000:=by
 have a:(dD f.time).length≤30:=pt o! o!
 have b:(ig f.number).length≤30:=pt o! o!
 have:=A2 (a:=dD f.time) (b:=f.kind) (c:=f.item) (d:=f.ag) (e:=ig f.number) (n:=1000) o! h0 h1 h2 o!
 rw[aN,List.length_append,List.length_cons,List.length_nil]
 omega
end
end Go.Proofs.aP
