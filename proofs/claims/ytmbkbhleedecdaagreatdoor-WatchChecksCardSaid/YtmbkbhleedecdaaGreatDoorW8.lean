import Derived.Test.YtmbkbhleedecdaaGreatDoorA8
import Derived.Test.YtmbkbhleedecdaaGreatDoorW0
import Derived.Test.YtmbkbhleedecdaaGreatDoorEnv
import Derived.Test.YtmbkbhleedecdaaGreatDoorW7
namespace Go.Proofs.aM
open Go.Proofs Ab
noncomputable section
set_option maxRecDepth 100000
set_option maxHeartbeats 4000000
set_option linter.unusedVariables false
set_option linter.unusedSimpArgs false
def tz:Code:=(Tryz.f113.body).getD .skip
theorem IH:Tryz.f113.body=some tz:=by kernel_rfl
def vU:Code:=(Tryz.f115.body).getD .skip
theorem Mn:Tryz.f115.body=some vU:=by kernel_rfl
def tA:Code:=(Tryz.f103.body).getD .skip
theorem II:Tryz.f103.body=some tA:=by kernel_rfl
def tB:Code:=(Tryz.f102.body).getD .skip
theorem IJ:Tryz.f102.body=some tB:=by kernel_rfl
theorem Nz {t:TypeId} {c d:Bool} {j:IntKind} {a s:Nat} {x y:Int} (hx:x=(a:Int)) (hy:y=(s:Int)∧s≤64):bu env .shr t c d (some (.int .i64 x)) (some (.int j y))=some (.int .i64 ((a/2^s:Nat):Int)):=by
 obtain ⟨rfl,hs⟩:=hy
 subst hx
 have h1:min s 64=s:=by omega
 have h2:((a:Int).fdiv (2^s))=((a/2^s:Nat):Int):=by
  rw[Int.fdiv_eq_ediv_of_nonneg _ (Int.pow_nonneg (by decide))]
  norm_cast
 simp only[bu,jG,Int.toNat_natCast]
 rw[if_neg o!]
 show some (AV.int .i64 ((a:Int).fdiv (2^(min s 64))))=_
 rw[h1,h2]
theorem Mo {N:Nat} {e:TypeId} {i z:Nat} (hs:b_ env e=some 1) (hz:z<N):b8 env (some (.array N e)) (some (.ptr i 0)) (some (.int .i64 (z:Nat)))=some (.ptr i z):=by
 simp only[b8,hs]
 rw[if_pos ⟨by omega,by omega⟩,Int.toNat_natCast,Nat.zero_add,Nat.mul_one]
theorem ux {t e:TypeId} {p N lo hi w c:Nat} {vG qm:Option AV} (ht:env.P.underlying t=some (.array N e)) (hs:b_ env e=some 1) (hl:vG=some (.int .i64 (lo:Nat))∨vG=none∧lo=0) (hh:qm=some (.int .i64 (hi:Nat))∨qm=none∧hi=N) (h1:lo≤hi∧hi≤N) (h3:lo<N) (hw:w=hi - lo) (hc:c=N - lo):
 dx env t (.ptr p 0) vG qm none=some (.slice p lo w c false):=by
 subst hw hc
 simp only[dx,ht,hs,nu (len:=N) (cap:=N) vG qm hl hh h1.1 h1.2]
 rw[if_neg o!,Nat.zero_add,Nat.mul_one]
def V5 (l:List Nat):List UInt8:=l.map UInt8.ofNat
def F1 (h:ax) (i o n:Nat):Option AV:=match tV h i o n with
 | some l=>some (.str l)
 | none=>none
theorem Ej {F:AV→Option UInt8} (hF:∀x:Nat,F (.int .u8 (x:Int))=some (UInt8.ofNat x)):∀(l:List Nat),dL F (bE .u8 l)=some (V5 l)
 | []=>rfl
 | x::l=>by
   have:=Ej hF l
   simp only[bE,List.map_cons,dL] at this ⊢
   rw[this,hF]
   rfl
theorem IK {h:ax} {p o n:Nat} {R:List Nat} {f:TypeId} {ro:Bool} (hg:h.get p=some (.cells (bE .u8 R) f ro)) (hn:o+n≤R.length):F1 h p o n=some (.str (V5 ((R.drop o).take n))):=by
 have e:((bE .u8 R).drop o).take n=bE .u8 ((R.drop o).take n):=by simp [bE,List.map_take,List.map_drop]
 simp only[F1,tV,hg]
 rw[if_pos (by rw[fp];exact hn),e,Ej (fun x=>by simp) _]
def pX (u:Nat):Nat:=if h:u<10 then 1 else pX (u/10)+1
termination_by u
decreasing_by omega
theorem tC {u:Nat} (h:u<10):pX u=1:=by rw[pX,dif_pos h]
theorem uy {u:Nat} (h:¬u<10):pX u=pX (u/10)+1:=by rw[pX,dif_neg h]
theorem tD:∀(n u:Nat),10^n≤u→u<10^(n+1)→pX u=n+1
 | 0,u,_,h=>tC (by simpa using h)
 | n+1,u,h1,h2=>by
   have h0:1≤10^n:=Nat.pow_pos (by decide)
   rw[Nat.pow_succ] at h1
   rw[uy o!,tD n (u/10) o! (by rw[Nat.pow_succ] at h2;omega)]
theorem tE:∀(u:Nat),u≠0→1≤pX u∧10^(pX u - 1)≤u∧u<10^pX u:=by
 intro u
 induction u using Nat.strongRecOn with
 | _ u ih=>
   intro hu
   by_cases q:u<10
   · rw[tC q];simp;omega
   · obtain ⟨h1,h2,h3⟩:=ih (u/10) o! o!
     rw[uy q]
     refine ⟨by omega,?_,?_⟩
     · rw[show pX (u/10)+1 - 1=pX (u/10) - 1+1 by omega,Nat.pow_succ];omega
     · rw[Nat.pow_succ];omega
def o7 (u:Nat):List UInt8:=V5 (dW u (pX u))
theorem RP:∀T<20,n6.getD T 0=10^T:=by decide+kernel
theorem XR:∀L<65,0<L→L*78913/2^18<20∧(L*78913/2^18=0∨10^(L*78913/2^18 - 1)≤2^(L - 1))∧2^L≤10^(L*78913/2^18+1):=by decide+kernel
theorem IL {d:Nat} {h:ax} {x:Nat} (hx:x≤64):cT (d+1) (.fn 113) [.int .i64 (x:Nat)] h= .ret (.int .i64 ((x*78913/2^18:Nat):Int)) h:=by
 have w1:IntKind.i64.wrap (((x:Nat):Int)*78913)=((x:Nat):Int)*78913:=(wrap_i64 o! o!)
 have u2:bu env .shr 3 false true (some (AV.int .i64 (((x:Nat):Int)*78913))) (some (AV.int .u64 18))=some (AV.int .i64 (((x*78913) /2^18:Nat):Int)):=Nz (a:=(x*78913)) o! o!
 have ev:=pk (d) tz ((AV.int .i64 ((x:Nat):Int))::jg 5) h .ret h (CN 2<|VV (Hn 3 false true w1)<|VV u2<|CC<|ZZ) (by kernel_rfl)
 exact aw rfl (aI Tryz.func113 IH (by kernel_rfl) (.inr rfl) ev (by kernel_rfl)) (Has.refl _) rfl
theorem Uz {d:Nat} {h:ax} {b:Bool}:cT (d+1) (.fn 115) [.bool b] h= .ret (.int .i64 (if b then 1 else 0)) h:=by
 cases b with
 | true=>
   have ev:=pk (d) vU ((AV.bool true)::jg 3) h .ret h (CN 2<|TT<|CC<|ZZ) (by kernel_rfl)
   exact aw rfl (aI Tryz.func115 Mn (by kernel_rfl) (.inr rfl) ev (by kernel_rfl)) (Has.refl _) rfl
 | false=>
   have ev:=pk (d) vU ((AV.bool false)::jg 3) h .ret h (CN 2<|FF<|CC<|ZZ) (by kernel_rfl)
   exact aw rfl (aI Tryz.func115 Mn (by kernel_rfl) (.inr rfl) ev (by kernel_rfl)) (Has.refl _) rfl
theorem zQ {d:Nat} {h:ax} {u:Nat} {f:TypeId} {ro:Bool} (RQ:u≠0) (KB:u<18446744073709551616) (hG:h.get 1=some (.cells (bE .u64 n6) f ro)):
 cT (d+2) (.fn 103) [.int .u64 (u:Nat)] h= .ret (.int .i64 (pX u:Nat)) h:=by
 obtain ⟨L,kL,bL,hL⟩:=Up (d:=d) (h:=h) u KB
 obtain ⟨hLp,hL1,hL2⟩:0<L∧2^(L - 1)≤u∧u<2^L:=by
  rcases bL with ⟨h1,_⟩ | h1
  · exact absurd h1 RQ
  · exact h1
 obtain ⟨t1,t2,t3⟩:=XR L o! hLp
 have kT:=IL (d:=d) (h:=h) hL
 obtain ⟨T,hT⟩:∃T,T=L*78913/2^18:=⟨_,rfl⟩
 rw[←hT] at t1 t2 t3 kT
 obtain ⟨P,hP⟩:∃P,P=10^T:=⟨_,rfl⟩
 have kP:=Nk (E:=env) (t:=12) (i:=T) (by kernel_rfl) hG (show T<20 from t1)
 rw[RP T t1,←hP] at kP
 obtain ⟨B2,hB2⟩:∃B2:Nat,B2=if P≤u then 1 else 0:=⟨_,rfl⟩
 have hB1:B2≤1:=by rw[hB2];split<;>omega
 have kB:cT (d+1) (.fn 115) [.bool (decide (((P:Nat):Int)≤((u:Nat):Int)))] h= .ret (.int .i64 ((B2:Nat):Int)) h:=by
  rw[Uz,hB2]
  by_cases q:P≤u
  · rw[if_pos q,decide_eq_true o!];rfl
  · rw[if_neg q,decide_eq_false o!];rfl
 have ix1:b8 env (some (.array 20 150)) (some (AV.ptr 1 0)) (some (AV.int .i64 ((T:Nat):Int)))=some (AV.ptr 1 T):=Mo (by kernel_rfl) o!
 have w2:IntKind.i64.wrap (((T:Nat):Int)+((B2:Nat):Int))=((T:Nat):Int)+((B2:Nat):Int):=(wrap_i64 o! o!)
 have ev:=pk (d+1) tA ((AV.int .u64 ((u:Nat):Int))::jg 14) h .ret h (CN 2<|EE kL<|EE kT<|CN 4<|VV ix1<|MM kP<|VV (b9 150 false false .u64 ((u:Nat):Int) ((P:Nat):Int))<|EE kB<|VV (qY 3 false false w2)<|CC<|ZZ) (by kernel_rfl)
 have e:((T:Nat):Int)+((B2:Nat):Int)=((pX u:Nat):Int):=by
  by_cases q:P≤u
  · rw[if_pos q] at hB2
    rw[tD T u (by rw[←hP];exact q) (Nat.lt_of_lt_of_le hL2 t3)]
    omega
  · rw[if_neg q] at hB2
    have hT0:T≠0:=fun e0=>by rw[e0] at hP;simp at hP;omega
    rcases t2 with t2 | t2
    · exact absurd t2 hT0
    · rw[tD (T - 1) u (Nat.le_trans t2 hL1) (by rw[show T - 1+1=T by omega,←hP];omega)]
      omega
 rw[←e]
 exact aw rfl (aI Tryz.func103 II (by kernel_rfl) (.inr rfl) ev (by kernel_rfl)) (Has.refl _) rfl
theorem RR {d:Nat} {h:ax} {u:Nat} (hu:u<100):cT (d+1) (.fn 102) [.int .i64 (u:Nat)] h= .ret (.str (o7 u)) h:=by
 by_cases q:u<10
 · have q1:(decide (((u:Nat):Int)<10))=true:=(dT o!)
   have w2:IntKind.i64.wrap (((u:Nat):Int)+1)=((u:Nat):Int)+1:=(wrap_i64 o! o!)
   have sl3:dx env 9 (AV.str [48,49,50,51,52,53,54,55,56,57,97,98,99,100,101,102,103,104,105,106,107,108,109,110,111,112,113,114,115,116,117,118,119,120,121,122]) (some (AV.int .i64 ((u:Nat):Int))) (some (AV.int .i64 (((u:Nat):Int)+1))) (none)=some (AV.str (List.take ((u+1) - u) (List.drop u ([48,49,50,51,52,53,54,55,56,57,97,98,99,100,101,102,103,104,105,106,107,108,109,110,111,112,113,114,115,116,117,118,119,120,121,122])))):=D6 (by kernel_rfl) o! o! o! (by first | omega | (simp;omega))
   have ev:=pk (d) tB ((AV.int .i64 ((u:Nat):Int))::jg 14) h .ret h (CN 2<|VV (aY 3 false true .i64 ((u:Nat):Int) 10)<|BB q1<|CN 2<|VV (qY 3 false true w2)<|QQ sl3<|CC<|ZZ) (by kernel_rfl)
   have t:∀u<10,List.take ((u+1) - u) (List.drop u ([48,49,50,51,52,53,54,55,56,57,97,98,99,100,101,102,103,104,105,106,107,108,109,110,111,112,113,114,115,116,117,118,119,120,121,122]))=V5 (dW u 1):=by decide+kernel
   have e:o7 u=List.take ((u+1) - u) (List.drop u ([48,49,50,51,52,53,54,55,56,57,97,98,99,100,101,102,103,104,105,106,107,108,109,110,111,112,113,114,115,116,117,118,119,120,121,122])):=by rw[o7,tC q,t u q]
   rw[e]
   exact aw rfl (aI Tryz.func102 IJ (by kernel_rfl) (.inr rfl) ev (by kernel_rfl)) (Has.refl _) rfl
 · have q1:(decide (((u:Nat):Int)<10))=false:=(dF o!)
   have w2:IntKind.i64.wrap (((u:Nat):Int)*2)=((u:Nat):Int)*2:=(wrap_i64 o! o!)
   have w3:IntKind.i64.wrap ((((u:Nat):Int)*2)+2)=(((u:Nat):Int)*2)+2:=(wrap_i64 o! o!)
   have sl4:dx env 9 (AV.str [48,48,48,49,48,50,48,51,48,52,48,53,48,54,48,55,48,56,48,57,49,48,49,49,49,50,49,51,49,52,49,53,49,54,49,55,49,56,49,57,50,48,50,49,50,50,50,51,50,52,50,53,50,54,50,55,50,56,50,57,51,48,51,49,51,50,51,51,51,52,51,53,51,54,51,55,51,56,51,57,52,48,52,49,52,50,52,51,52,52,52,53,52,54,52,55,52,56,52,57,53,48,53,49,53,50,53,51,53,52,53,53,53,54,53,55,53,56,53,57,54,48,54,49,54,50,54,51,54,52,54,53,54,54,54,55,54,56,54,57,55,48,55,49,55,50,55,51,55,52,55,53,55,54,55,55,55,56,55,57,56,48,56,49,56,50,56,51,56,52,56,53,56,54,56,55,56,56,56,57,57,48,57,49,57,50,57,51,57,52,57,53,57,54,57,55,57,56,57,57]) (some (AV.int .i64 (((u:Nat):Int)*2))) (some (AV.int .i64 ((((u:Nat):Int)*2)+2))) (none)=some (AV.str (List.take ((u*2+2) -(u*2)) (List.drop (u*2) ([48,48,48,49,48,50,48,51,48,52,48,53,48,54,48,55,48,56,48,57,49,48,49,49,49,50,49,51,49,52,49,53,49,54,49,55,49,56,49,57,50,48,50,49,50,50,50,51,50,52,50,53,50,54,50,55,50,56,50,57,51,48,51,49,51,50,51,51,51,52,51,53,51,54,51,55,51,56,51,57,52,48,52,49,52,50,52,51,52,52,52,53,52,54,52,55,52,56,52,57,53,48,53,49,53,50,53,51,53,52,53,53,53,54,53,55,53,56,53,57,54,48,54,49,54,50,54,51,54,52,54,53,54,54,54,55,54,56,54,57,55,48,55,49,55,50,55,51,55,52,55,53,55,54,55,55,55,56,55,57,56,48,56,49,56,50,56,51,56,52,56,53,56,54,56,55,56,56,56,57,57,48,57,49,57,50,57,51,57,52,57,53,57,54,57,55,57,56,57,57])))):=D6 (by kernel_rfl) o! o! o! (by first | omega | (simp;omega))
   have ev:=pk (d) tB ((AV.int .i64 ((u:Nat):Int))::jg 14) h .ret h (CN 2<|VV (aY 3 false true .i64 ((u:Nat):Int) 10)<|BB q1<|CC<|VV (Hn 3 false true w2)<|CC<|VV (Hn 3 false true w2)<|VV (qY 3 false true w3)<|QQ sl4<|CC<|ZZ) (by kernel_rfl)
   have t:∀u<100,¬u<10→List.take ((u*2+2) -(u*2)) (List.drop (u*2) ([48,48,48,49,48,50,48,51,48,52,48,53,48,54,48,55,48,56,48,57,49,48,49,49,49,50,49,51,49,52,49,53,49,54,49,55,49,56,49,57,50,48,50,49,50,50,50,51,50,52,50,53,50,54,50,55,50,56,50,57,51,48,51,49,51,50,51,51,51,52,51,53,51,54,51,55,51,56,51,57,52,48,52,49,52,50,52,51,52,52,52,53,52,54,52,55,52,56,52,57,53,48,53,49,53,50,53,51,53,52,53,53,53,54,53,55,53,56,53,57,54,48,54,49,54,50,54,51,54,52,54,53,54,54,54,55,54,56,54,57,55,48,55,49,55,50,55,51,55,52,55,53,55,54,55,55,55,56,55,57,56,48,56,49,56,50,56,51,56,52,56,53,56,54,56,55,56,56,56,57,57,48,57,49,57,50,57,51,57,52,57,53,57,54,57,55,57,56,57,57]))=V5 (dW u 2):=by decide+kernel
   have e:o7 u=List.take ((u*2+2) -(u*2)) (List.drop (u*2) ([48,48,48,49,48,50,48,51,48,52,48,53,48,54,48,55,48,56,48,57,49,48,49,49,49,50,49,51,49,52,49,53,49,54,49,55,49,56,49,57,50,48,50,49,50,50,50,51,50,52,50,53,50,54,50,55,50,56,50,57,51,48,51,49,51,50,51,51,51,52,51,53,51,54,51,55,51,56,51,57,52,48,52,49,52,50,52,51,52,52,52,53,52,54,52,55,52,56,52,57,53,48,53,49,53,50,53,51,53,52,53,53,53,54,53,55,53,56,53,57,54,48,54,49,54,50,54,51,54,52,54,53,54,54,54,55,54,56,54,57,55,48,55,49,55,50,55,51,55,52,55,53,55,54,55,55,55,56,55,57,56,48,56,49,56,50,56,51,56,52,56,53,56,54,56,55,56,56,56,57,57,48,57,49,57,50,57,51,57,52,57,53,57,54,57,55,57,56,57,57])):=by rw[o7,uy q,tC o!,t u hu q]
   rw[e]
   exact aw rfl (aI Tryz.func102 IJ (by kernel_rfl) (.inr rfl) ev (by kernel_rfl)) (Has.refl _) rfl
def ku:Code:=(Tryz.f85.body).getD .skip
theorem rE:Tryz.f85.body=some ku:=by kernel_rfl
theorem CL {n:Nat} (hn:n≤23):Holds .u8 (bE .u8 (List.replicate 24 0)) 1 (List.replicate n 0):=fun i z hz=>by
 rw[List.getElem?_replicate] at hz
 split at hz
 · cases hz
   exact mE (by rw[List.getElem?_replicate,if_pos o!])
 · cases hz
theorem Ek {n:Nat} {D:List Nat} (hn:n≤23) (hD:D.length=n):setFrom (bE .u8 (List.replicate 24 0)) 1 (bE .u8 D)=bE .u8 (0::(D++List.replicate (23 - n) 0)):=by
 rw[Qc (by rw[List.length_replicate];omega),hD,List.drop_replicate,show 24 -(1+n)=23 - n by omega]
 rfl
theorem RS {h:ax} {p n u:Nat} {f:TypeId} {ro:Bool} (hn:n=pX u) (h24:n≤23) (hg:h.get p=some (.cells (bE .u8 (0::(dW u n++List.replicate (23 - n) 0))) f ro)):F1 h p 1 n=some (.str (o7 u)):=by
 have e:((0::(dW u n++List.replicate (23 - n) 0)).drop 1).take n=dW u n:=by
  rw[List.drop_succ_cons,List.drop_zero,List.take_append_of_le_length (by rw[pW];omega),List.take_of_length_le (by rw[pW];omega)]
 have:=IK (o:=1) (n:=n) hg (by simp [pW];omega)
 rw[e] at this
 rw[this,o7,←hn]
theorem RU {h:ax} {p n u:Nat} {f:TypeId} {ro:Bool} (hn:n=pX u) (h24:n≤23) (hg:h.get p=some (.cells (bE .u8 ((0::(dW u n++List.replicate (23 - n) 0)).set 0 45)) f ro)):F1 h p 0 (n+1)=some (.str (45::o7 u)):=by
 have e:(((0::(dW u n++List.replicate (23 - n) 0)).set 0 45).drop 0).take (n+1)=45::dW u n:=by
  rw[List.drop_zero,List.set_cons_zero,List.take_succ_cons,List.take_append_of_le_length (by rw[pW];omega),List.take_of_length_le (by rw[pW];omega)]
 have:=IK (o:=0) (n:=n+1) hg (by simp only[List.length_set,List.length_cons,List.length_append,pW,List.length_replicate];omega)
 rw[e] at this
 rw[this,o7,←hn]
 rfl
theorem vV {u:Nat} (RQ:u≠0) (KB:u<18446744073709551616):pX u≤20:=by
 obtain ⟨n1,n2,n3⟩:=tE u RQ
 have:10^(pX u - 1)<10^20:=Nat.lt_of_le_of_lt n2 (Nat.lt_trans KB (by decide))
 have:=(Nat.pow_lt_pow_iff_right (by decide:1<10)).1 this
 omega
theorem rF (x:Int):IntKind.u64.wrap x=x%18446744073709551616:=by
 show (if (false&&decide (x%2^64≥2^63))=true then x%2^64 - 2^64 else x%2^64)=_
 rw[if_neg (by simp)]
 omega
def aaV (m:Bool) (u:Nat):List UInt8:=if m then 45::o7 u else o7 u
theorem F2 {d:Nat} {h:ax} {u:Nat} {f:TypeId} {ro:Bool} (hu1:u<9223372036854775808) (hG:h.get 1=some (.cells (bE .u64 n6) f ro)) (ca:Tidy h):
 cT (d+4) (.fn 85) [.int .i64 (u:Nat),.int .i64 10] h= .ret (.str (o7 u)) h:=by
 by_cases hu:u<100
 · have q1:(decide (0≤((u:Nat):Int)))=true:=(dT o!)
   have q2:(decide (((u:Nat):Int)<100))=true:=(dT o!)
   have ev:=pk (d+3) ku ((AV.int .i64 ((u:Nat):Int))::(AV.int .i64 10)::jg 52) h .ret h (CN 3<|TT<|CC<|VV (lg 2 true false .i64 0 ((u:Nat):Int))<|CC<|BB q1<|CC<|BB q1<|VV (aY 2 false true .i64 ((u:Nat):Int) 100)<|VV (Fv (a:=some (AV.bool (decide (((u:Nat):Int)<100)))) (b:=some (AV.bool false)) q1)<|BB q2<|CC<|EE (show (cT (d+3)) (.fn 102) [(AV.int .i64 ((u:Nat):Int))] h= .ret (AV.str (o7 u)) h from (RR (d:=d+2) hu))<|CC<|ZZ) (by kernel_rfl)
   exact aw rfl (aI Tryz.func85 rE (by kernel_rfl) (.inr rfl) ev (by kernel_rfl)) (Has.refl _) rfl
 · have RQ:u≠0:=by omega
   have KB:u<18446744073709551616:=by omega
   have CM:=vV RQ KB
   obtain ⟨n1,n2,hun⟩:=tE u RQ
   obtain ⟨n,hn⟩:∃n,n=pX u:=⟨_,rfl⟩
   rw[←hn] at n1 n2 hun CM
   replace CM:n≤23:=by omega
   have ew:IntKind.u64.wrap ((u:Nat):Int)=((u:Nat):Int):=by rw[rF];omega
   clear n2
   have q1:(decide (0≤((u:Nat):Int)))=true:=(dT o!)
   have q2:(decide (((u:Nat):Int)<100))=false:=(dF o!)
   obtain ⟨h3,Aj,mR,acR,CO,bH⟩:=lk ca (aK.cells [(AV.int .u8 0),(AV.int .u8 0),(AV.int .u8 0),(AV.int .u8 0),(AV.int .u8 0),(AV.int .u8 0),(AV.int .u8 0),(AV.int .u8 0),(AV.int .u8 0),(AV.int .u8 0),(AV.int .u8 0),(AV.int .u8 0),(AV.int .u8 0),(AV.int .u8 0),(AV.int .u8 0),(AV.int .u8 0),(AV.int .u8 0),(AV.int .u8 0),(AV.int .u8 0),(AV.int .u8 0),(AV.int .u8 0),(AV.int .u8 0),(AV.int .u8 0),(AV.int .u8 0)] 149 false)
   have gv:Has h h3:=bH
   have aaW:h3.get h.nx=some (aK.cells (bE .u8 (List.replicate 24 0)) 149 false):=CO
   have q4:(decide (((u:Nat):Int)<0))=false:=(dF o!)
   have w5:IntKind.i64.wrap (1+((n:Nat):Int))=1+((n:Nat):Int):=(wrap_i64 o! o!)
   have sl6:dx env 149 (AV.ptr h.nx 0) (some (AV.int .i64 1)) (some (AV.int .i64 (1+((n:Nat):Int)))) (none)=some (AV.slice h.nx 1 n 23 false):=ux (e:=5) (N:=24) (lo:=1) (hi:=(n+1)) (by kernel_rfl) (by kernel_rfl) (.inl rfl) (.inl (by rw[show ((1+((n:Nat):Int)):Int)=(((n+1):Nat):Int) by omega])) o! o! o! o!
   obtain ⟨h7,aaX,XS,xm⟩:=RO (d:=d+2) (l:=List.replicate n 0) (u:=u) (p:=h.nx) (o:=1) (n:=n) (c:=23) (op:=false) (C:=bE .u8 (List.replicate 24 0)) (f:=149) (by simp) o! (by rw[fp,List.length_replicate];omega) (CL CM) aaW hun KB mR
   have dK:=XS.1
   rw[←ew] at aaX
   have V6:=XS.2.1
   rw[Ek CM (pW _ _)] at V6
   have cK:Has h h7:=XS.has gv ca o!
   have sl8:dx env 149 (AV.ptr h.nx 0) (some (AV.int .i64 1)) (some (AV.int .i64 (1+((n:Nat):Int)))) (none)=some (AV.slice h.nx 1 n 23 false):=ux (e:=5) (N:=24) (lo:=1) (hi:=(n+1)) (by kernel_rfl) (by kernel_rfl) (.inl rfl) (.inl (by rw[show ((1+((n:Nat):Int)):Int)=(((n+1):Nat):Int) by omega])) o! o! o! o!
   have cv9:F1 h7 h.nx 1 n=some (AV.str (o7 u)):=RS hn CM V6
   have ev:=pk (d+3) ku ((AV.int .i64 ((u:Nat):Int))::(AV.int .i64 10)::jg 52) h .ret h7 (CN 3<|TT<|CC<|VV (lg 2 true false .i64 0 ((u:Nat):Int))<|CC<|BB q1<|CC<|BB q1<|VV (aY 2 false true .i64 ((u:Nat):Int) 100)<|VV (Fv (a:=some (AV.bool (decide (((u:Nat):Int)<100)))) (b:=some (AV.bool false)) q1)<|BB q2<|NN Aj (fun i=>(AV.ptr i 0))<|CN 4<|VV (aY 2 false true .i64 ((u:Nat):Int) 0)<|BB q4<|CC<|EE (show (cT (d+3)) (.fn 103) [(AV.int .u64 (IntKind.u64.wrap ((u:Nat):Int)))] h3= .ret (AV.int .i64 ((n:Nat):Int)) h3 from (by rw[ew,hn];exact zQ (d:=d+1) RQ KB (gv _ _ hG)))<|CN 2<|VV (qY 3 true false w5)<|QQ sl6<|CC<|EE aaX<|CC<|VV (aY 2 false true .i64 ((u:Nat):Int) 0)<|BB q4<|CC<|VV (qY 3 true false w5)<|QQ sl8<|MM cv9<|CC<|ZZ) (by kernel_rfl)
   exact aw rfl (aI Tryz.func85 rE (by kernel_rfl) (.inr rfl) ev (by kernel_rfl)) cK rfl
theorem F3 {d:Nat} {h:ax} {u:Nat} {f:TypeId} {ro:Bool} (RQ:u≠0) (hu1:u≤9223372036854775808) (hG:h.get 1=some (.cells (bE .u64 n6) f ro)) (ca:Tidy h):
 cT (d+4) (.fn 85) [.int .i64 (-((u:Nat):Int)),.int .i64 10] h= .ret (.str (45::o7 u)) h:=by
 have KB:u<18446744073709551616:=by omega
 have CM:=vV RQ KB
 obtain ⟨n1,n2,hun⟩:=tE u RQ
 obtain ⟨n,hn⟩:∃n,n=pX u:=⟨_,rfl⟩
 rw[←hn] at n1 n2 hun CM
 replace CM:n≤23:=by omega
 have ew:IntKind.u64.wrap (0 - IntKind.u64.wrap (-((u:Nat):Int)))=((u:Nat):Int):=by rw[rF,rF];omega
 clear n2
 have q1:(decide (0≤(-((u:Nat):Int))))=false:=(dF o!)
 obtain ⟨h2,fH,mS,Kc,bC,aZ⟩:=lk ca (aK.cells [(AV.int .u8 0),(AV.int .u8 0),(AV.int .u8 0),(AV.int .u8 0),(AV.int .u8 0),(AV.int .u8 0),(AV.int .u8 0),(AV.int .u8 0),(AV.int .u8 0),(AV.int .u8 0),(AV.int .u8 0),(AV.int .u8 0),(AV.int .u8 0),(AV.int .u8 0),(AV.int .u8 0),(AV.int .u8 0),(AV.int .u8 0),(AV.int .u8 0),(AV.int .u8 0),(AV.int .u8 0),(AV.int .u8 0),(AV.int .u8 0),(AV.int .u8 0),(AV.int .u8 0)] 149 false)
 have eW:Has h h2:=aZ
 have aaY:h2.get h.nx=some (aK.cells (bE .u8 (List.replicate 24 0)) 149 false):=bC
 have q3:(decide ((-((u:Nat):Int))<0))=true:=(dT o!)
 have w4:IntKind.i64.wrap (1+((n:Nat):Int))=1+((n:Nat):Int):=(wrap_i64 o! o!)
 have sl5:dx env 149 (AV.ptr h.nx 0) (some (AV.int .i64 1)) (some (AV.int .i64 (1+((n:Nat):Int)))) (none)=some (AV.slice h.nx 1 n 23 false):=ux (e:=5) (N:=24) (lo:=1) (hi:=(n+1)) (by kernel_rfl) (by kernel_rfl) (.inl rfl) (.inl (by rw[show ((1+((n:Nat):Int)):Int)=(((n+1):Nat):Int) by omega])) o! o! o! o!
 obtain ⟨h6,aaZ,KK,BK⟩:=RO (d:=d+2) (l:=List.replicate n 0) (u:=u) (p:=h.nx) (o:=1) (n:=n) (c:=23) (op:=false) (C:=bE .u8 (List.replicate 24 0)) (f:=149) (by simp) o! (by rw[fp,List.length_replicate];omega) (CL CM) aaY hun KB mS
 have kJ:=KK.1
 rw[←ew] at aaZ
 have RV:=KK.2.1
 rw[Ek CM (pW _ _)] at RV
 have iC:Has h h6:=KK.has eW ca o!
 have zI:b8 env (some (.array 24 5)) (some (AV.ptr h.nx 0)) (some (AV.int .i64 0))=some (AV.ptr h.nx 0):=Mo (z:=0) (by kernel_rfl) o!
 obtain ⟨h8,XT⟩:∃hh:ax,hh=h6.put h.nx (some (aK.cells (bE .u8 ((0::(dW u n++List.replicate (23 - n) 0)).set 0 45)) 149 false)):=⟨_,rfl⟩
 have F4:bY env h6 5 (AV.ptr h.nx 0) (AV.int .u8 45)=some h8:=by rw[XT];exact J_ (by kernel_rfl) RV (show 0<(0::(dW u n++List.replicate (23 - n) 0)).length by simp)
 have XU:n5 h6 h8 h.nx (aK.cells (bE .u8 ((0::(dW u n++List.replicate (23 - n) 0)).set 0 45)) 149 false):=by rw[XT];exact cq kJ RV
 have oH:=XU.1
 have UA:h8.nx=h6.nx:=by rw[XT];rfl
 have xU:Has h h8:=XU.has iC ca o!
 have SM:dx env 149 (AV.ptr h.nx 0) (none) (some (AV.int .i64 (1+((n:Nat):Int)))) (none)=some (AV.slice h.nx 0 (n+1) 24 false):=ux (e:=5) (N:=24) (lo:=0) (hi:=(n+1)) (by kernel_rfl) (by kernel_rfl) (.inr ⟨rfl,rfl⟩) (.inl (by rw[show ((1+((n:Nat):Int)):Int)=(((n+1):Nat):Int) by omega])) o! o! o! o!
 have acS:F1 h8 h.nx 0 (n+1)=some (AV.str (45::o7 u)):=RU hn CM XU.2.1
 have ev:=pk (d+3) ku ((AV.int .i64 (-((u:Nat):Int)))::(AV.int .i64 10)::jg 52) h .ret h8 (CN 3<|TT<|CC<|VV (lg 2 true false .i64 0 (-((u:Nat):Int)))<|CC<|BB q1<|BB q1<|VV (aE (a:=some AV.undef) (b:=some (AV.bool false)) q1)<|FF<|NN fH (fun i=>(AV.ptr i 0))<|CN 4<|VV (aY 2 false true .i64 (-((u:Nat):Int)) 0)<|BB q3<|CN 4<|EE (show (cT (d+3)) (.fn 103) [(AV.int .u64 (IntKind.u64.wrap (0 -(IntKind.u64.wrap (-((u:Nat):Int))))))] h2= .ret (AV.int .i64 ((n:Nat):Int)) h2 from (by rw[ew,hn];exact zQ (d:=d+1) RQ KB (eW _ _ hG)))<|CN 2<|VV (qY 3 true false w4)<|QQ sl5<|CC<|EE aaZ<|CC<|VV (aY 2 false true .i64 (-((u:Nat):Int)) 0)<|BB q3<|VV zI<|SS F4<|CC<|VV (qY 3 true false w4)<|QQ SM<|MM acS<|CC<|ZZ) (by kernel_rfl)
 exact aw rfl (aI Tryz.func85 rE (by kernel_rfl) (.inr rfl) ev (by kernel_rfl)) xU rfl
def IM (z:Int):List UInt8:=aaV (decide (z<0)) z.natAbs
theorem F5 {d:Nat} {h:ax} {z:Int} {f:TypeId} {ro:Bool} (h1: -9223372036854775808≤z) (h2:z<9223372036854775808) (hG:h.get 1=some (.cells (bE .u64 n6) f ro)) (ca:Tidy h):
 cT (d+4) (.fn 85) [.int .i64 z,.int .i64 10] h= .ret (.str (IM z)) h:=by
 unfold IM
 by_cases q:z<0
 · rw[decide_eq_true q]
   have:=F3 (d:=d) (u:=z.natAbs) o! o! hG ca
   rw[show (-((z.natAbs:Nat):Int))=z by omega] at this
   exact this
 · rw[decide_eq_false q]
   have:=F2 (d:=d) (u:=z.natAbs) o! hG ca
   rw[show ((z.natAbs:Nat):Int)=z by omega] at this
   exact this

theorem XV {d:Nat} {h:ax} {q n c:Nat} {op:Bool} {l:List (List UInt8)} {sep:List UInt8} {el:TypeId} {ro:Bool} (hg:h.get q=some (.cells (l.map .str) el ro)) (hn:l.length=n) (hc:n≤c) (YZ:n≤100000) (hl:(Lib.join l sep).length≤1000000000):
 cT (d+1) (.fn 21) [.slice q 0 n c op,.str sep] h= .ret (.str (Lib.join l sep)) h:=by
 have e:M0 21 [.slice q 0 n c op,.str sep] h=some (.str (Lib.join l sep),h):=by
  show H8 [.slice q 0 n c op,.str sep] h=_
  subst hn
  unfold H8
  simp only[hg,List.length_map,Nat.zero_add]
  rw[if_pos ⟨Nat.le_refl _,hc,YZ⟩,List.drop_zero,List.take_of_length_le (by rw[List.length_map];exact Nat.le_refl _),H7]
  simp only[hl,if_true]
 show fB env M0 (d+1) (.fn 21) _ h=_
 simp only[fB,e]
theorem F6 {d:Nat} {h:ax}:cT (d+1) (.fn 5) [] h= .ret (.bool true) h:=by
 have e:M0 5 [] h=some (.bool true,h):=rfl
 show fB env M0 (d+1) (.fn 5) _ h=_
 simp only[fB,e]
theorem h_ {z:Int} (h1: -9223372036854775808≤z) (h2:z<9223372036854775808):(IM z).length≤30:=by
 have hd:∀u<18446744073709551616,(o7 u).length≤20:=fun u hu=>by
  rw[o7,V5,List.length_map,pW]
  by_cases q:u=0
  · subst q;decide+kernel
  · exact vV q hu
 unfold IM aaV
 have:=hd z.natAbs o!
 split
 · rw[List.length_cons];omega
 · omega
theorem gF (t:TypeId) (c d:Bool) (a b:List UInt8) (h:a.length+b.length<1099511627776):bu env .add t c d (some (.str a)) (some (.str b))=some (.str (a++b)):=by
 simp [bu,jG,qJ,h]
def gV (W:List (List UInt8)):List UInt8:=Lib.join W [32]++[10]
theorem UC {h:ax} {p:Nat} {z:Int} {f:TypeId} {ro:Bool} (hg:h.get p=some (.cells [.int .u8 z] f ro)):F1 h p 0 1=some (.str [UInt8.ofNat z.toNat]):=by
 simp only[F1,tV,hg];rfl
def F7 (n:Int) (k:Nat):Prop:=k≤20∧-1000000000000000000≤n∧n≤1000000000000000000∧((0≤n∧n<10^k∧1≤k)∨(n<0∧-n<10^(k - 1)∧1≤k))
theorem NA (n:Int):¬F7 n 0:=by rintro ⟨_,_,_,h | h⟩<;>omega
theorem Mp {n:Int} {k:Nat} (h:F7 n (k+1)):k≤20:=by have:=h.1;omega
theorem mc {n:Int} (h0: -1000000000000000000≤n) (h1:n≤1000000000000000000):F7 n 20:=by
 refine ⟨Nat.le_refl _,h0,h1,?_⟩
 by_cases hn:0≤n
 · exact .inl ⟨hn,by omega,by omega⟩
 · exact .inr ⟨by omega,by omega,by omega⟩
theorem IN {n:Int} {k:Nat} (h:F7 n (k+1)) (hn:n<0):F7 (IntKind.i64.wrap (0 - n)) k:=by
 have hw:IntKind.i64.wrap (0 - n)= -n:=by rw[wrap_i64 (by have:=h.2.1;omega) (by have:=h.2.1;omega)];omega
 rw[hw]
 obtain ⟨a,b,c,h | h⟩:=h
 · omega
 · refine ⟨by omega,by omega,by omega,.inl ⟨by omega,h.2.1,?_⟩⟩
   rcases Nat.eq_zero_or_pos k with hk | hk
   · subst hk;have:=h.2.1;simp at this;omega
   · exact hk
theorem IP {n:Int} {k:Nat} (h:F7 n (k+1)) (hn:10≤n):F7 (IntKind.i64.wrap (Int.tdiv n 10)) k:=by
 have hq:Int.tdiv n 10=n/10:=Int.tdiv_eq_ediv_of_nonneg o!
 have hw:IntKind.i64.wrap (Int.tdiv n 10)=n/10:=by rw[hq,wrap_i64 o! (by have:=h.2.2.1;omega)]
 rw[hw]
 obtain ⟨a,b,c,h | h⟩:=h
 · have h2:=h.2.1
   rw[Int.pow_succ] at h2
   refine ⟨by omega,by omega,by omega,.inl ⟨by omega,by omega,?_⟩⟩
   rcases Nat.eq_zero_or_pos k with hk | hk
   · subst hk;simp at h2;omega
   · exact hk
 · omega
def CP:Code:=(Tryz.f56.body).getD .skip
theorem tF:Tryz.f56.body=some CP:=by kernel_rfl
def ay:Nat→Int→List UInt8
 | 0,_=> []
 | CQ+1,n=>(bif (decide (n<0)) then ([45]++(ay CQ (IntKind.i64.wrap (0 - n)))) else (bif (decide (10≤n)) then ((ay CQ (IntKind.i64.wrap (Int.tdiv n 10)))++([UInt8.ofNat (IntKind.u8.wrap (IntKind.i64.wrap (48+(Int.tmod n 10)))).toNat])) else ([UInt8.ofNat (IntKind.u8.wrap (IntKind.i64.wrap (48+(Int.tmod n 10)))).toNat])))
theorem ch:∀(k:Nat) (n:Int),(ay k n).length≤k
 | 0,_=>Nat.le_refl _
 | k+1,n=>by
   have h1:=ch k (IntKind.i64.wrap (0 - n));have h2:=ch k (IntKind.i64.wrap (Int.tdiv n 10))
   simp only[ay]
   cases decide (n<0)<;>cases decide (10≤n)<;>simp only[ak,ah,List.length_append,List.length_cons,List.length_nil]<;>omega
theorem tG {d:Nat}:∀(CQ:Nat) (h:ax) (n:Int) (CT:F7 n CQ) (ca:Tidy h),cT (d+CQ+1) (.fn 56) [(Zi n)] h= .ret (AV.str (ay CQ n)) h
 | 0,h,n,CT,ca=>by exact absurd CT (NA n)
 | CQ+1,h,n,CT,ca=>by
   rcases Bool.eq_false_or_eq_true (decide (n<0)) with f0 | f0
   · have e_:=of_decide_eq_true f0
     have adW:(ay CQ (IntKind.i64.wrap (0 - n))).length≤20:=Nat.le_trans (ch CQ (IntKind.i64.wrap (0 - n))) (Mp CT)
     have k2:=tG (d:=d) CQ h (IntKind.i64.wrap (0 - n)) (by first | exact IN CT e_ | exact IP CT fK) ca
     have u3:=gF 9 true false [45] (ay CQ (IntKind.i64.wrap (0 - n))) (by first | omega | (simp only[List.length_append,List.length_cons,List.length_nil];omega) | (simp;omega))
     have e:ay (CQ+1) n=([45]++(ay CQ (IntKind.i64.wrap (0 - n)))):=by simp only[ay,f0,ak,ah]
     rw[e]
     exact aw rfl (aI Tryz.func56 tF rfl (.inr rfl) (pk (d+CQ+1) _ _ h _ h (CN 2<|VV (aY 3 false true .i64 n 0)<|BB f0<|CN 2<|EE k2<|VV u3<|CC<|ZZ) k!) k!) (Has.refl _) rfl
   · have e_:=of_decide_eq_false f0
     obtain ⟨h2,fH,mS,Kc,bC,aZ⟩:=lk ca (aK.cells [(AV.int .u8 (IntKind.u8.wrap (IntKind.i64.wrap (48+(Int.tmod n 10)))))] 5 false)
     have eW:Has h h2:=aZ
     have cv3:F1 h2 h.nx 0 1=some (AV.str ([UInt8.ofNat (IntKind.u8.wrap (IntKind.i64.wrap (48+(Int.tmod n 10)))).toNat])):=UC bC
     rcases Bool.eq_false_or_eq_true (decide (10≤n)) with f1 | f1
     · have fK:=of_decide_eq_true f1
       have adX:(ay CQ (IntKind.i64.wrap (Int.tdiv n 10))).length≤20:=Nat.le_trans (ch CQ (IntKind.i64.wrap (Int.tdiv n 10))) (Mp CT)
       have k5:=tG (d:=d) CQ h2 (IntKind.i64.wrap (Int.tdiv n 10)) (by first | exact IN CT e_ | exact IP CT fK) mS
       have u6:=gF 9 false false (ay CQ (IntKind.i64.wrap (Int.tdiv n 10))) ([UInt8.ofNat (IntKind.u8.wrap (IntKind.i64.wrap (48+(Int.tmod n 10)))).toNat]) (by first | omega | (simp only[List.length_append,List.length_cons,List.length_nil];omega) | (simp;omega))
       have e:ay (CQ+1) n=((ay CQ (IntKind.i64.wrap (Int.tdiv n 10)))++([UInt8.ofNat (IntKind.u8.wrap (IntKind.i64.wrap (48+(Int.tmod n 10)))).toNat])):=by simp only[ay,f0,f1,ak,ah]
       rw[e]
       exact aw rfl (aI Tryz.func56 tF rfl (.inr rfl) (pk (d+CQ+1) _ _ h _ h2 (CN 2<|VV (aY 3 false true .i64 n 0)<|BB f0<|CN 4<|NN fH (fun i=>(AV.slice i 0 1 1 false))<|MM cv3<|CN 2<|VV (b9 3 false true .i64 n 10)<|BB f1<|CN 2<|EE k5<|CC<|VV u6<|CN 3<|ZZ) k!) k!) eW rfl
     · have fK:=of_decide_eq_false f1
       have e:ay (CQ+1) n=([UInt8.ofNat (IntKind.u8.wrap (IntKind.i64.wrap (48+(Int.tmod n 10)))).toNat]):=by simp only[ay,f0,f1,ak,ah]
       rw[e]
       exact aw rfl (aI Tryz.func56 tF rfl (.inr rfl) (pk (d+CQ+1) _ _ h _ h2 (CN 2<|VV (aY 3 false true .i64 n 0)<|BB f0<|CN 4<|NN fH (fun i=>(AV.slice i 0 1 1 false))<|MM cv3<|CN 2<|VV (b9 3 false true .i64 n 10)<|BB f1<|CN 2<|ZZ) k!) k!) eW rfl
theorem ep {d:Nat} {h:ax} (n:Int) (CT:F7 n 20) (ca:Tidy h):cT (d+21) (.fn 56) [(Zi n)] h= .ret (AV.str (ay 20 n)) h:=
 tG 20 h n CT ca
def F8:Code:=(Tryz.f55.body).getD .skip
theorem NB:Tryz.f55.body=some F8:=by kernel_rfl
def xV (i:Int):List UInt8:=(IM i)
theorem NC {d:Nat} {h:ax} (i:Int) (hG:h.get 1=some (aK.cells (bE .u64 n6) 162 true)) (Nv: -9223372036854775808≤i) (aam:i<9223372036854775808) (ca:Tidy h):cT (d+5) (.fn 55) [(Zi i)] h= .ret (AV.str (xV i)) h:=by
 have k1:=F5 (d:=d) (z:=i) o! o! hG ca
 have e:xV i=(IM i):=by simp only[xV,ak,ah]
 rw[e]
 exact aw rfl (aI Tryz.func55 NB rfl (.inr rfl) (pk (d+4) _ _ h _ h (CN 2<|EE k1<|CC<|ZZ) k!) k!) (Has.refl _) rfl
def IQ:Code:=(Tryz.f22.body).getD .skip
theorem RW:Tryz.f22.body=some IQ:=by kernel_rfl
def aN (i:Int):List UInt8:=(xV i)
theorem ia {d:Nat} {h:ax} (i:Int) (hG:h.get 1=some (aK.cells (bE .u64 n6) 162 true)) (Nv: -9223372036854775808≤i) (aam:i<9223372036854775808) (ca:Tidy h):cT (d+6) (.fn 22) [(Zi i)] h= .ret (AV.str (aN i)) h:=by
 have k1:=NC (d:=d) i hG (by first | omega | assumption | (simp only[List.length_set,List.length_replicate,List.length_append,List.length_cons,List.length_nil,List.nil_append]<;>omega) | (rw[List.length_take];omega)) (by first | omega | assumption | (simp only[List.length_set,List.length_replicate,List.length_append,List.length_cons,List.length_nil,List.nil_append]<;>omega) | (rw[List.length_take];omega)) ca
 have e:aN i=(xV i):=by simp only[aN,ak,ah]
 rw[e]
 exact aw rfl (aI Tryz.func22 RW rfl (.inr rfl) (pk (d+5) _ _ h _ h (CN 2<|EE k1<|CC<|ZZ) k!) k!) (Has.refl _) rfl
theorem RX (u:Nat):(IntKind.u8.wrap (IntKind.i64.wrap (48+(Int.tmod (u:Int) 10)))).toNat=48+u%10:=by
 have a:Int.tmod (u:Int) 10=((u%10:Nat):Int):=by
  rw[Int.tmod_eq_emod_of_nonneg o!];omega
 have b:u%10<10:=Nat.mod_lt _ o!
 rw[a,wrap_i64 o! o!]
 have c:IntKind.u8.wrap (48+((u%10:Nat):Int))=48+((u%10:Nat):Int):=by
  show (48+((u%10:Nat):Int))%256=_
  omega
 rw[c];omega
theorem F_:∀(k u:Nat),u<10^k→1≤k→u≤1000000000000000000→ay k (u:Int)=o7 u
 | 0,u,_,h,_=>by omega
 | k+1,u,hu,_,hb=>by
   rw[ay,decide_eq_false (by omega:¬((u:Int)<0)),ah,RX]
   by_cases t:u<10
   · rw[decide_eq_false (by omega:¬((10:Int)≤(u:Int))),ah,o7,tC t];rfl
   · have q:IntKind.i64.wrap (Int.tdiv (u:Int) 10)=((u/10:Nat):Int):=by
      rw[Int.tdiv_eq_ediv_of_nonneg o!,wrap_i64 o! o!];omega
     have hk:1≤k:=by
      rcases Nat.eq_zero_or_pos k with z | z
      · subst z;simp at hu;omega
      · exact z
     rw[decide_eq_true (by omega:((10:Int)≤(u:Int))),ak,q,F_ k (u/10) (by rw[Nat.pow_succ] at hu;omega) hk o!,o7,o7,uy t,dW,V5,V5,List.map_append];rfl
theorem XX {z:Int} (h1: -1000000000000000000≤z) (h2:z≤1000000000000000000):ay 20 z=IM z:=by
 rw[IM]
 by_cases q:z<0
 · have w:IntKind.i64.wrap (0 - z)=((z.natAbs:Nat):Int):=by rw[wrap_i64 o! o!];omega
   rw[ay,decide_eq_true q,ak,w,F_ 19 z.natAbs o! o! o!];rfl
 · have w:z=((z.natAbs:Nat):Int):=by omega
   have e:=F_ 20 z.natAbs o! o! o!
   rw[←w] at e
   rw[e,decide_eq_false q];rfl
def pE:Code:=(Tryz.f40.body).getD .skip
theorem oI:Tryz.f40.body=some pE:=by kernel_rfl
def yU:Code:=(b5 pE).getD 0 .skip
def eP (a:List bF) (b:List bF):Nat→Nat→Option (Bool)
 | 0,_=>none
 | eC+1,i0=>(bif (!bF.eq (a.g i0) (b.g i0)) then some false else eP a b eC (i0+1))
theorem lN {d:Nat} {h:ax} (aV:AV) (bV:AV) (a:List bF) (b:List bF) (bh:aJ h aV a) (di:aJ h bV b) (ma:a.length=b.length):∀(k_ i_:Nat) (_:i_+k_=a.length) (x:Nat→AV) (hh:ax) (aF:Tidy hh) (aG:Has h hh),aB (cT (d)) yU ⟨(aV::bV::rx x 2 10 ((Zn a.length)::(Zn i_)::rx x 14 12 [])),hh,[],.no⟩ (.exit 0) hh (fun y=>(aV::bV::rx y 2 10 ((Zn a.length)::rx y 13 13 []))) (fun r y=>(aV::bV::(y 2)::(y 3)::(AV.bool r)::rx y 5 7 ((Zn a.length)::rx y 13 13 []))) (eP a b k_ i_)
 | 0,i0,jh,x,hh,aF,aG=>by
   have dp:=bh.small
   have gd:=di.small
   have q1:(decide (((i0:Nat):Int)<((a.length:Nat):Int)))=false:=d!
   exact aB.out rfl (pk (d) _ _ hh _ hh (VV (aY 3 false false .i64 ((i0:Nat):Int) ((a.length:Nat):Int))<|BB q1<|ZZ) k!) (bW.refl aF) k!
 | eC+1,i0,jh,x,hh,aF,aG=>by
   have dp:=bh.small
   have gd:=di.small
   have q1:(decide (((i0:Nat):Int)<((a.length:Nat):Int)))=true:=d!
   obtain ⟨p3,q4,eD⟩:=(bh.has aG).elem (i:=i0) o!
   have ik:b8 env (some (.slice 71)) (some aV) (some (Zn i0))=some (AV.ptr p3 q4):=eD
   have ji:bS env hh 71 (AV.ptr p3 q4)=some (AV.agg [(Zi (a.g i0).az),(Zi (a.g i0).level),(Zi (a.g i0).bq),(Zi (a.g i0).measure)]):=(bh.has aG).load o! eD
   obtain ⟨p7,q8,xE⟩:=(di.has aG).elem (i:=i0) o!
   have yf:b8 env (some (.slice 71)) (some bV) (some (Zn i0))=some (AV.ptr p7 q8):=xE
   have Au:bS env hh 71 (AV.ptr p7 q8)=some (AV.agg [(Zi (b.g i0).az),(Zi (b.g i0).level),(Zi (b.g i0).bq),(Zi (b.g i0).measure)]):=(di.has aG).load o! xE
   have zJ:bu env .neq 71 false false (some (AV.agg [(Zi (a.g i0).az),(Zi (a.g i0).level),(Zi (a.g i0).bq),(Zi (a.g i0).measure)])) (some (AV.agg [(Zi (b.g i0).az),(Zi (b.g i0).level),(Zi (b.g i0).bq),(Zi (b.g i0).measure)]))=some (AV.bool (!bF.eq (a.g i0) (b.g i0))):=bF.neq (a.g i0) (b.g i0)
   have Ky:AV.same 20 (AV.agg [(Zi (a.g i0).az),(Zi (a.g i0).level),(Zi (a.g i0).bq),(Zi (a.g i0).measure)]) (AV.agg [(Zi (a.g i0).az),(Zi (a.g i0).level),(Zi (a.g i0).bq),(Zi (a.g i0).measure)])=true:=cW 18 (eX (fun n=>aC n _ _) (eX (fun n=>aC n _ _) (eX (fun n=>aC n _ _) (eX (fun n=>aC n _ _) zG))))
   have ve:AV.same 20 (AV.agg [(Zi (b.g i0).az),(Zi (b.g i0).level),(Zi (b.g i0).bq),(Zi (b.g i0).measure)]) (AV.agg [(Zi (b.g i0).az),(Zi (b.g i0).level),(Zi (b.g i0).bq),(Zi (b.g i0).measure)])=true:=cW 18 (eX (fun n=>aC n _ _) (eX (fun n=>aC n _ _) (eX (fun n=>aC n _ _) (eX (fun n=>aC n _ _) zG))))
   rcases Bool.eq_false_or_eq_true (!bF.eq (a.g i0) (b.g i0)) with f1 | f1
   · exact aB.ret false (by simp only[eP,f1,ak,ah]) (pk (d) _ _ hh _ hh (VV (aY 3 false false .i64 ((i0:Nat):Int) ((a.length:Nat):Int))<|BB q1<|CN 4<|VV ik<|MM ji<|CN 2<|VV yf<|MM Au<|VV zJ<|HH ji<|HH Ky<|HH Au<|HH ve<|BC f1<|ZZ) k!) (bW.refl aF) k!
   · have Dq:=eZ 3 false true i0 1 o!
     exact aB.round (by simp only[eP,f1,ak,ah]) (pk (d) _ _ hh _ hh (VV (aY 3 false false .i64 ((i0:Nat):Int) ((a.length:Nat):Int))<|BB q1<|CN 4<|VV ik<|MM ji<|CN 2<|VV yf<|MM Au<|VV zJ<|HH ji<|HH Ky<|HH Au<|HH ve<|BV f1 Dq<|CC<|ZZ) k!) (bW.refl aF) _ k! (fun x=>lN aV bV a b bh di ma eC (i0+1) o! x hh aF aG)
def dV (a:List bF) (b:List bF):Bool:=(bif (!decide (((a.length:Nat):Int)=((b.length:Nat):Int))) then false else (match (eP a b a.length 0) with | none=>true | some KL=>KL))
theorem CU {d:Nat} {h:ax} {aV bV:AV} (a:List bF) (b:List bF) (iS:aJ h aV a) (jF:aJ h bV b) (ca:Tidy h):cT (d+1) (.fn 40) [aV,bV] h= .ret (AV.bool (dV a b)) h:=by
 have RY:=iS.small
 have RZ:=jF.small
 have eb:cg (some (.slice 71)) (some aV)=some (Zn a.length):=iS.len
 have Ah:cg (some (.slice 71)) (some bV)=some (Zn b.length):=jF.len
 rcases Bool.eq_false_or_eq_true (!decide (((a.length:Nat):Int)=((b.length:Nat):Int))) with f0 | f0
 · have e_:=rO f0
   have e:dV a b=false:=by simp only[dV,f0,ak,ah]
   rw[e]
   exact aw rfl (aI Tryz.func40 oI rfl (.inr rfl) (pk (d) _ _ h _ h (CN 2<|VV eb<|CC<|VV Ah<|VV (cf 3 false false .i64 ((a.length:Nat):Int) ((b.length:Nat):Int))<|BC f0<|ZZ) k!) k!) (Has.refl _) rfl
 · have e_:=rP f0
   have F':cg (some (.slice 71)) (some aV)=some (Zn a.length):=iS.len
   cases iF:eP a b a.length 0 with
   | none=>
     obtain ⟨XY,h6,kO,kQ⟩:=aB.n iF (lN (d:=d) (h:=h) aV bV a b iS jF o! a.length 0 o! (fun k_=>((aV::bV::AV.undef::AV.undef::(AV.bool false)::AV.undef::aV::(Zn a.length)::bV::(Zn b.length)::(AV.bool (!decide (((a.length:Nat):Int)=((b.length:Nat):Int))))::aV::(Zn a.length)::(Zi 0)::jg 12):List AV).getD k_ AV.undef) h ca (Has.refl _))
     have kJ:=kQ.y
     have KM:h.nx≤h6.nx:=kQ.n
     have iC:Has h h6:=kQ.a
     have e:dV a b=true:=by simp only[dV,f0,iF,ak,ah]
     rw[e]
     exact aw rfl (aI Tryz.func40 oI rfl (.inr rfl) (pk (d) _ _ h _ h6 (CN 2<|VV eb<|CC<|VV Ah<|VV (cf 3 false false .i64 ((a.length:Nat):Int) ((b.length:Nat):Int))<|BC f0<|VV F'<|CC<|LL kO<|CC<|ZZ) k!) k!) iC rfl
   | some KL=>
     obtain ⟨XY,h6,kO,kQ⟩:=aB.r iF (lN (d:=d) (h:=h) aV bV a b iS jF o! a.length 0 o! (fun k_=>((aV::bV::AV.undef::AV.undef::(AV.bool false)::AV.undef::aV::(Zn a.length)::bV::(Zn b.length)::(AV.bool (!decide (((a.length:Nat):Int)=((b.length:Nat):Int))))::aV::(Zn a.length)::(Zi 0)::jg 12):List AV).getD k_ AV.undef) h ca (Has.refl _))
     have kJ:=kQ.y
     have KM:h.nx≤h6.nx:=kQ.n
     have iC:Has h h6:=kQ.a
     have e:dV a b=KL:=by simp only[dV,f0,iF,ak,ah]
     rw[e]
     exact aw rfl (aI Tryz.func40 oI rfl (.inr rfl) (pk (d) _ _ h _ h6 (CN 2<|VV eb<|CC<|VV Ah<|VV (cf 3 false false .i64 ((a.length:Nat):Int) ((b.length:Nat):Int))<|BC f0<|VV F'<|CC<|LL kO<|ZZ) k!) k!) iC rfl
def qy:Code:=(Tryz.f37.body).getD .skip
theorem pY:Tryz.f37.body=some qy:=by kernel_rfl
def Ak:Code:=(b5 qy).getD 0 .skip
def fu (a:List aQ) (P:aQ→aQ→Bool) (b:List aQ):Nat→Nat→Option (Bool)
 | 0,_=>none
 | eC+1,i0=>(bif (!(P (a.g i0) (b.g i0))) then some false else fu a P b eC (i0+1))
theorem me {d:Nat} {h:ax} (bV:AV) (g:FuncId) (cap:List AV) (aV:AV) (a:List aQ) (b:List aQ) (P:aQ→aQ→Bool) (bh:aJ h bV b) (di:aJ h aV a) (hP:∀x∈a,∀y∈b,∀hh,Tidy hh→Has h hh→cT d (.fn g) (.agg (aH.c x):: .agg (aH.c y)::cap) hh= .ret (.bool (P x y)) hh) (ma:a.length=b.length):∀(k_ i_:Nat) (_:i_+k_=a.length) (x:Nat→AV) (hh:ax) (aF:Tidy hh) (aG:Has h hh),aB (cT (d)) Ak ⟨((x 0)::bV::(AV.func g [] cap)::rx x 3 12 (aV::(Zn a.length)::(Zn i_)::rx x 18 14 [])),hh,[],.no⟩ (.exit 0) hh (fun y=>((y 0)::bV::(AV.func g [] cap)::rx y 3 12 (aV::(Zn a.length)::rx y 17 15 []))) (fun r y=>((y 0)::bV::(AV.func g [] cap)::rx y 3 3 ((AV.bool r)::rx y 7 8 (aV::(Zn a.length)::rx y 17 15 [])))) (fu a P b k_ i_)
 | 0,i0,jh,x,hh,aF,aG=>by
   have dp:=bh.small
   have gd:=di.small
   have q1:(decide (((i0:Nat):Int)<((a.length:Nat):Int)))=false:=d!
   exact aB.out rfl (pk (d) _ _ hh _ hh (VV (aY 3 false false .i64 ((i0:Nat):Int) ((a.length:Nat):Int))<|BB q1<|ZZ) k!) (bW.refl aF) k!
 | eC+1,i0,jh,x,hh,aF,aG=>by
   have dp:=bh.small
   have gd:=di.small
   have q1:(decide (((i0:Nat):Int)<((a.length:Nat):Int)))=true:=d!
   obtain ⟨p3,q4,eD⟩:=(di.has aG).elem (i:=i0) o!
   have ik:b8 env (some (.slice 43)) (some aV) (some (Zn i0))=some (AV.ptr p3 q4):=eD
   have ji:bS env hh 43 (AV.ptr p3 q4)=some (AV.agg [(AV.str (a.g i0).name),(Zi (a.g i0).aq),(Zi (a.g i0).aj),(Zi (a.g i0).aO),(Zi (a.g i0).aR),(Zi (a.g i0).bad),(a.g i0).aD]):=(di.has aG).load o! eD
   obtain ⟨h6,kI,kJ,BK,n7,eS⟩:=lk aF (aK.cells [(AV.str []),(Zi 0),(Zi 0),(Zi 0),(Zi 0),(Zi 0),AV.aX] 43 false)
   have iC:Has hh h6:=eS
   have sc8:AV.scalar (a.g i0).aD=true:=(((di.has aG).ok (i:=i0) o!).2).scalar
   obtain ⟨h7,kK,dK,xm,bG,cH⟩:=vF (t:=43) (n:=7) (i:=hh.nx) (L:=[(AV.str (a.g i0).name),(Zi (a.g i0).aq),(Zi (a.g i0).aj),(Zi (a.g i0).aO),(Zi (a.g i0).aR),(Zi (a.g i0).bad),(a.g i0).aD]) kJ n7 k! rfl rfl (by simp only[AV.cells,List.all_cons,List.all_nil,Bool.and_true,Bool.and_self,kC,iA,kD,kE,fY,nW,nX,nY,nZ,n4,kF,sc8])
   have cK:Has hh h7:=Has.eB iC cH aF o!
   obtain ⟨V7,V8,IS⟩:=(bh.has aG).elem (i:=i0) o!
   have Qx:b8 env (some (.slice 43)) (some bV) (some (Zn i0))=some (AV.ptr V7 V8):=IS
   have IT:bS env h7 43 (AV.ptr V7 V8)=some (AV.agg [(AV.str (b.g i0).name),(Zi (b.g i0).aq),(Zi (b.g i0).aj),(Zi (b.g i0).aO),(Zi (b.g i0).aR),(Zi (b.g i0).bad),(b.g i0).aD]):=((bh.has aG).has cK).load o! IS
   obtain ⟨r_,V9,xH,adY,aa0,R0⟩:=lk dK (aK.cells [(AV.str []),(Zi 0),(Zi 0),(Zi 0),(Zi 0),(Zi 0),AV.aX] 43 false)
   have m5:Has hh r_:=cK.trans R0
   have acT:AV.scalar (b.g i0).aD=true:=(((bh.has aG).ok (i:=i0) o!).2).scalar
   obtain ⟨o6,vh,oo,IF,kq,KN⟩:=vF (t:=43) (n:=7) (i:=h7.nx) (L:=[(AV.str (b.g i0).name),(Zi (b.g i0).aq),(Zi (b.g i0).aj),(Zi (b.g i0).aO),(Zi (b.g i0).aR),(Zi (b.g i0).bad),(b.g i0).aD]) xH aa0 k! rfl rfl (by simp only[AV.cells,List.all_cons,List.all_nil,Bool.and_true,Bool.and_self,kC,iA,kD,kE,fY,nW,nX,nY,nZ,n4,kF,acT])
   have pC:Has hh o6:=Has.eB m5 KN aF o!
   have Gs:=hP (a.g i0) (BF o!) (b.g i0) (BF o!) o6 oo (aG.trans pC)
   rcases Bool.eq_false_or_eq_true (!(P (a.g i0) (b.g i0))) with f1 | f1
   · exact aB.ret false (by simp only[fu,f1,ak,ah]) (pk (d) _ _ hh _ o6 (VV (aY 3 false false .i64 ((i0:Nat):Int) ((a.length:Nat):Int))<|BC q1<|VV ik<|MM ji<|NN kI (fun i=>(Pt i))<|CC<|SS kK<|CN 2<|VV Qx<|MM IT<|NN V9 (fun i=>(Pt i))<|SS vh<|CC<|MM (ao 43 0 (AV.agg [(AV.str (a.g i0).name),(Zi (a.g i0).aq),(Zi (a.g i0).aj),(Zi (a.g i0).aO),(Zi (a.g i0).aR),(Zi (a.g i0).bad),(a.g i0).aD]) (KN _ _ o! (R0 _ _ bG)) k!)<|MM (ao 43 0 (AV.agg [(AV.str (b.g i0).name),(Zi (b.g i0).aq),(Zi (b.g i0).aj),(Zi (b.g i0).aO),(Zi (b.g i0).aR),(Zi (b.g i0).bad),(b.g i0).aD]) kq k!)<|EE Gs<|CC<|BC f1<|ZZ) k!) (⟨oo,pC,by omega⟩) k!
   · have XO:=eZ 3 false true i0 1 o!
     exact aB.round (by simp only[fu,f1,ak,ah]) (pk (d) _ _ hh _ o6 (VV (aY 3 false false .i64 ((i0:Nat):Int) ((a.length:Nat):Int))<|BC q1<|VV ik<|MM ji<|NN kI (fun i=>(Pt i))<|CC<|SS kK<|CN 2<|VV Qx<|MM IT<|NN V9 (fun i=>(Pt i))<|SS vh<|CC<|MM (ao 43 0 (AV.agg [(AV.str (a.g i0).name),(Zi (a.g i0).aq),(Zi (a.g i0).aj),(Zi (a.g i0).aO),(Zi (a.g i0).aR),(Zi (a.g i0).bad),(a.g i0).aD]) (KN _ _ o! (R0 _ _ bG)) k!)<|MM (ao 43 0 (AV.agg [(AV.str (b.g i0).name),(Zi (b.g i0).aq),(Zi (b.g i0).aj),(Zi (b.g i0).aO),(Zi (b.g i0).aR),(Zi (b.g i0).bad),(b.g i0).aD]) kq k!)<|EE Gs<|CC<|BV f1 XO<|CC<|ZZ) k!) (⟨oo,pC,by omega⟩) _ k! (fun x=>me bV g cap aV a b P bh di hP ma eC (i0+1) o! x o6 oo (aG.trans pC))
def fv (a:List aQ) (b:List aQ) (P:aQ→aQ→Bool):Bool:=(bif (!decide (((a.length:Nat):Int)=((b.length:Nat):Int))) then false else (match (fu a P b a.length 0) with | none=>true | some KL=>KL))
theorem Du {d:Nat} {h:ax} {aV bV:AV} {g:FuncId} {cap:List AV} (a:List aQ) (b:List aQ) (P:aQ→aQ→Bool) (iS:aJ h aV a) (jF:aJ h bV b) (hP:∀x∈a,∀y∈b,∀hh,Tidy hh→Has h hh→cT d (.fn g) (.agg (aH.c x):: .agg (aH.c y)::cap) hh= .ret (.bool (P x y)) hh) (ca:Tidy h):cT (d+1) (.fn 37) [aV,bV,(AV.func g [] cap)] h= .ret (AV.bool (fv a b P)) h:=by
 have RY:=iS.small
 have RZ:=jF.small
 have eb:cg (some (.slice 43)) (some aV)=some (Zn a.length):=iS.len
 have Ah:cg (some (.slice 43)) (some bV)=some (Zn b.length):=jF.len
 rcases Bool.eq_false_or_eq_true (!decide (((a.length:Nat):Int)=((b.length:Nat):Int))) with f0 | f0
 · have e_:=rO f0
   have e:fv a b P=false:=by simp only[fv,f0,ak,ah]
   rw[e]
   exact aw rfl (aI Tryz.func37 pY rfl (.inr rfl) (pk (d) _ _ h _ h (CN 2<|VV eb<|CC<|VV Ah<|VV (cf 3 false false .i64 ((a.length:Nat):Int) ((b.length:Nat):Int))<|BC f0<|ZZ) k!) k!) (Has.refl _) rfl
 · have e_:=rP f0
   have F':cg (some (.slice 43)) (some aV)=some (Zn a.length):=iS.len
   cases iF:fu a P b a.length 0 with
   | none=>
     obtain ⟨XY,h6,kO,kQ⟩:=aB.n iF (me (d:=d) (h:=h) bV g cap aV a b P jF iS hP o! a.length 0 o! (fun k_=>((aV::bV::(AV.func g [] cap)::AV.undef::AV.undef::AV.undef::(AV.bool false)::AV.undef::AV.undef::AV.undef::aV::(Zn a.length)::bV::(Zn b.length)::(AV.bool (!decide (((a.length:Nat):Int)=((b.length:Nat):Int))))::aV::(Zn a.length)::(Zi 0)::jg 14):List AV).getD k_ AV.undef) h ca (Has.refl _))
     have kJ:=kQ.y
     have KM:h.nx≤h6.nx:=kQ.n
     have iC:Has h h6:=kQ.a
     have e:fv a b P=true:=by simp only[fv,f0,iF,ak,ah]
     rw[e]
     exact aw rfl (aI Tryz.func37 pY rfl (.inr rfl) (pk (d) _ _ h _ h6 (CN 2<|VV eb<|CC<|VV Ah<|VV (cf 3 false false .i64 ((a.length:Nat):Int) ((b.length:Nat):Int))<|BC f0<|VV F'<|CC<|LL kO<|CC<|ZZ) k!) k!) iC rfl
   | some KL=>
     obtain ⟨XY,h6,kO,kQ⟩:=aB.r iF (me (d:=d) (h:=h) bV g cap aV a b P jF iS hP o! a.length 0 o! (fun k_=>((aV::bV::(AV.func g [] cap)::AV.undef::AV.undef::AV.undef::(AV.bool false)::AV.undef::AV.undef::AV.undef::aV::(Zn a.length)::bV::(Zn b.length)::(AV.bool (!decide (((a.length:Nat):Int)=((b.length:Nat):Int))))::aV::(Zn a.length)::(Zi 0)::jg 14):List AV).getD k_ AV.undef) h ca (Has.refl _))
     have kJ:=kQ.y
     have KM:h.nx≤h6.nx:=kQ.n
     have iC:Has h h6:=kQ.a
     have e:fv a b P=KL:=by simp only[fv,f0,iF,ak,ah]
     rw[e]
     exact aw rfl (aI Tryz.func37 pY rfl (.inr rfl) (pk (d) _ _ h _ h6 (CN 2<|VV eb<|CC<|VV Ah<|VV (cf 3 false false .i64 ((a.length:Nat):Int) ((b.length:Nat):Int))<|BC f0<|VV F'<|CC<|LL kO<|ZZ) k!) k!) iC rfl
def m_:Code:=(Tryz.f39.body).getD .skip
theorem mf:Tryz.f39.body=some m_:=by kernel_rfl
def vW:Code:=(b5 m_).getD 0 .skip
def dI (a:List aL) (b:List aL):Nat→Nat→Option (Bool)
 | 0,_=>none
 | eC+1,i0=>(bif (!aL.eq (a.g i0) (b.g i0)) then some false else dI a b eC (i0+1))
theorem kg {d:Nat} {h:ax} (aV:AV) (bV:AV) (a:List aL) (b:List aL) (bh:aJ h aV a) (di:aJ h bV b) (ma:a.length=b.length):∀(k_ i_:Nat) (_:i_+k_=a.length) (x:Nat→AV) (hh:ax) (aF:Tidy hh) (aG:Has h hh),aB (cT (d)) vW ⟨(aV::bV::rx x 2 10 ((Zn a.length)::(Zn i_)::rx x 14 12 [])),hh,[],.no⟩ (.exit 0) hh (fun y=>(aV::bV::rx y 2 10 ((Zn a.length)::rx y 13 13 []))) (fun r y=>(aV::bV::(y 2)::(y 3)::(AV.bool r)::rx y 5 7 ((Zn a.length)::rx y 13 13 []))) (dI a b k_ i_)
 | 0,i0,jh,x,hh,aF,aG=>by
   have dp:=bh.small
   have gd:=di.small
   have q1:(decide (((i0:Nat):Int)<((a.length:Nat):Int)))=false:=d!
   exact aB.out rfl (pk (d) _ _ hh _ hh (VV (aY 3 false false .i64 ((i0:Nat):Int) ((a.length:Nat):Int))<|BB q1<|ZZ) k!) (bW.refl aF) k!
 | eC+1,i0,jh,x,hh,aF,aG=>by
   have dp:=bh.small
   have gd:=di.small
   have q1:(decide (((i0:Nat):Int)<((a.length:Nat):Int)))=true:=d!
   obtain ⟨p3,q4,eD⟩:=(bh.has aG).elem (i:=i0) o!
   have ik:b8 env (some (.slice 45)) (some aV) (some (Zn i0))=some (AV.ptr p3 q4):=eD
   have ji:bS env hh 45 (AV.ptr p3 q4)=some (AV.agg [(AV.str (a.g i0).name),(AV.str (a.g i0).ba),(Zi (a.g i0).bx),(Zi (a.g i0).eK),(Zi (a.g i0).bm)]):=(bh.has aG).load o! eD
   obtain ⟨p7,q8,xE⟩:=(di.has aG).elem (i:=i0) o!
   have yf:b8 env (some (.slice 45)) (some bV) (some (Zn i0))=some (AV.ptr p7 q8):=xE
   have Au:bS env hh 45 (AV.ptr p7 q8)=some (AV.agg [(AV.str (b.g i0).name),(AV.str (b.g i0).ba),(Zi (b.g i0).bx),(Zi (b.g i0).eK),(Zi (b.g i0).bm)]):=(di.has aG).load o! xE
   have zJ:bu env .neq 45 false false (some (AV.agg [(AV.str (a.g i0).name),(AV.str (a.g i0).ba),(Zi (a.g i0).bx),(Zi (a.g i0).eK),(Zi (a.g i0).bm)])) (some (AV.agg [(AV.str (b.g i0).name),(AV.str (b.g i0).ba),(Zi (b.g i0).bx),(Zi (b.g i0).eK),(Zi (b.g i0).bm)]))=some (AV.bool (!aL.eq (a.g i0) (b.g i0))):=aL.neq (a.g i0) (b.g i0)
   have Ky:AV.same 20 (AV.agg [(AV.str (a.g i0).name),(AV.str (a.g i0).ba),(Zi (a.g i0).bx),(Zi (a.g i0).eK),(Zi (a.g i0).bm)]) (AV.agg [(AV.str (a.g i0).name),(AV.str (a.g i0).ba),(Zi (a.g i0).bx),(Zi (a.g i0).eK),(Zi (a.g i0).bm)])=true:=cW 18 (eX (fun n=>aP n _) (eX (fun n=>aP n _) (eX (fun n=>aC n _ _) (eX (fun n=>aC n _ _) (eX (fun n=>aC n _ _) zG)))))
   have ve:AV.same 20 (AV.agg [(AV.str (b.g i0).name),(AV.str (b.g i0).ba),(Zi (b.g i0).bx),(Zi (b.g i0).eK),(Zi (b.g i0).bm)]) (AV.agg [(AV.str (b.g i0).name),(AV.str (b.g i0).ba),(Zi (b.g i0).bx),(Zi (b.g i0).eK),(Zi (b.g i0).bm)])=true:=cW 18 (eX (fun n=>aP n _) (eX (fun n=>aP n _) (eX (fun n=>aC n _ _) (eX (fun n=>aC n _ _) (eX (fun n=>aC n _ _) zG)))))
   rcases Bool.eq_false_or_eq_true (!aL.eq (a.g i0) (b.g i0)) with f1 | f1
   · exact aB.ret false (by simp only[dI,f1,ak,ah]) (pk (d) _ _ hh _ hh (VV (aY 3 false false .i64 ((i0:Nat):Int) ((a.length:Nat):Int))<|BB q1<|CN 4<|VV ik<|MM ji<|CN 2<|VV yf<|MM Au<|VV zJ<|HH ji<|HH Ky<|HH Au<|HH ve<|BC f1<|ZZ) k!) (bW.refl aF) k!
   · have Dq:=eZ 3 false true i0 1 o!
     exact aB.round (by simp only[dI,f1,ak,ah]) (pk (d) _ _ hh _ hh (VV (aY 3 false false .i64 ((i0:Nat):Int) ((a.length:Nat):Int))<|BB q1<|CN 4<|VV ik<|MM ji<|CN 2<|VV yf<|MM Au<|VV zJ<|HH ji<|HH Ky<|HH Au<|HH ve<|BV f1 Dq<|CC<|ZZ) k!) (bW.refl aF) _ k! (fun x=>kg aV bV a b bh di ma eC (i0+1) o! x hh aF aG)
def cR (a:List aL) (b:List aL):Bool:=(bif (!decide (((a.length:Nat):Int)=((b.length:Nat):Int))) then false else (match (dI a b a.length 0) with | none=>true | some KL=>KL))
theorem yV {d:Nat} {h:ax} {aV bV:AV} (a:List aL) (b:List aL) (iS:aJ h aV a) (jF:aJ h bV b) (ca:Tidy h):cT (d+1) (.fn 39) [aV,bV] h= .ret (AV.bool (cR a b)) h:=by
 have RY:=iS.small
 have RZ:=jF.small
 have eb:cg (some (.slice 45)) (some aV)=some (Zn a.length):=iS.len
 have Ah:cg (some (.slice 45)) (some bV)=some (Zn b.length):=jF.len
 rcases Bool.eq_false_or_eq_true (!decide (((a.length:Nat):Int)=((b.length:Nat):Int))) with f0 | f0
 · have e_:=rO f0
   have e:cR a b=false:=by simp only[cR,f0,ak,ah]
   rw[e]
   exact aw rfl (aI Tryz.func39 mf rfl (.inr rfl) (pk (d) _ _ h _ h (CN 2<|VV eb<|CC<|VV Ah<|VV (cf 3 false false .i64 ((a.length:Nat):Int) ((b.length:Nat):Int))<|BC f0<|ZZ) k!) k!) (Has.refl _) rfl
 · have e_:=rP f0
   have F':cg (some (.slice 45)) (some aV)=some (Zn a.length):=iS.len
   cases iF:dI a b a.length 0 with
   | none=>
     obtain ⟨XY,h6,kO,kQ⟩:=aB.n iF (kg (d:=d) (h:=h) aV bV a b iS jF o! a.length 0 o! (fun k_=>((aV::bV::AV.undef::AV.undef::(AV.bool false)::AV.undef::aV::(Zn a.length)::bV::(Zn b.length)::(AV.bool (!decide (((a.length:Nat):Int)=((b.length:Nat):Int))))::aV::(Zn a.length)::(Zi 0)::jg 12):List AV).getD k_ AV.undef) h ca (Has.refl _))
     have kJ:=kQ.y
     have KM:h.nx≤h6.nx:=kQ.n
     have iC:Has h h6:=kQ.a
     have e:cR a b=true:=by simp only[cR,f0,iF,ak,ah]
     rw[e]
     exact aw rfl (aI Tryz.func39 mf rfl (.inr rfl) (pk (d) _ _ h _ h6 (CN 2<|VV eb<|CC<|VV Ah<|VV (cf 3 false false .i64 ((a.length:Nat):Int) ((b.length:Nat):Int))<|BC f0<|VV F'<|CC<|LL kO<|CC<|ZZ) k!) k!) iC rfl
   | some KL=>
     obtain ⟨XY,h6,kO,kQ⟩:=aB.r iF (kg (d:=d) (h:=h) aV bV a b iS jF o! a.length 0 o! (fun k_=>((aV::bV::AV.undef::AV.undef::(AV.bool false)::AV.undef::aV::(Zn a.length)::bV::(Zn b.length)::(AV.bool (!decide (((a.length:Nat):Int)=((b.length:Nat):Int))))::aV::(Zn a.length)::(Zi 0)::jg 12):List AV).getD k_ AV.undef) h ca (Has.refl _))
     have kJ:=kQ.y
     have KM:h.nx≤h6.nx:=kQ.n
     have iC:Has h h6:=kQ.a
     have e:cR a b=KL:=by simp only[cR,f0,iF,ak,ah]
     rw[e]
     exact aw rfl (aI Tryz.func39 mf rfl (.inr rfl) (pk (d) _ _ h _ h6 (CN 2<|VV eb<|CC<|VV Ah<|VV (cf 3 false false .i64 ((a.length:Nat):Int) ((b.length:Nat):Int))<|BC f0<|VV F'<|CC<|LL kO<|ZZ) k!) k!) iC rfl
def pF:Code:=(Tryz.f71.body).getD .skip
theorem oJ:Tryz.f71.body=some pF:=by kernel_rfl
def yW:Code:=(b5 pF).getD 0 .skip
def eQ (a:List bn) (b:List bn):Nat→Nat→Option (Bool)
 | 0,_=>none
 | eC+1,i0=>(bif (!bn.eq (a.g i0) (b.g i0)) then some false else eQ a b eC (i0+1))
theorem lO {d:Nat} {h:ax} (aV:AV) (bV:AV) (a:List bn) (b:List bn) (bh:aJ h aV a) (di:aJ h bV b) (ma:a.length=b.length):∀(k_ i_:Nat) (_:i_+k_=a.length) (x:Nat→AV) (hh:ax) (aF:Tidy hh) (aG:Has h hh),aB (cT (d)) yW ⟨(aV::bV::rx x 2 10 ((Zn a.length)::(Zn i_)::rx x 14 12 [])),hh,[],.no⟩ (.exit 0) hh (fun y=>(aV::bV::rx y 2 10 ((Zn a.length)::rx y 13 13 []))) (fun r y=>(aV::bV::(y 2)::(y 3)::(AV.bool r)::rx y 5 7 ((Zn a.length)::rx y 13 13 []))) (eQ a b k_ i_)
 | 0,i0,jh,x,hh,aF,aG=>by
   have dp:=bh.small
   have gd:=di.small
   have q1:(decide (((i0:Nat):Int)<((a.length:Nat):Int)))=false:=d!
   exact aB.out rfl (pk (d) _ _ hh _ hh (VV (aY 3 false false .i64 ((i0:Nat):Int) ((a.length:Nat):Int))<|BB q1<|ZZ) k!) (bW.refl aF) k!
 | eC+1,i0,jh,x,hh,aF,aG=>by
   have dp:=bh.small
   have gd:=di.small
   have q1:(decide (((i0:Nat):Int)<((a.length:Nat):Int)))=true:=d!
   obtain ⟨p3,q4,eD⟩:=(bh.has aG).elem (i:=i0) o!
   have ik:b8 env (some (.slice 28)) (some aV) (some (Zn i0))=some (AV.ptr p3 q4):=eD
   have ji:bS env hh 28 (AV.ptr p3 q4)=some (AV.agg [(AV.str (a.g i0).name),(Zi (a.g i0).acc),(Zi (a.g i0).aW),(Zi (a.g i0).since)]):=(bh.has aG).load o! eD
   obtain ⟨p7,q8,xE⟩:=(di.has aG).elem (i:=i0) o!
   have yf:b8 env (some (.slice 28)) (some bV) (some (Zn i0))=some (AV.ptr p7 q8):=xE
   have Au:bS env hh 28 (AV.ptr p7 q8)=some (AV.agg [(AV.str (b.g i0).name),(Zi (b.g i0).acc),(Zi (b.g i0).aW),(Zi (b.g i0).since)]):=(di.has aG).load o! xE
   have zJ:bu env .neq 28 false false (some (AV.agg [(AV.str (a.g i0).name),(Zi (a.g i0).acc),(Zi (a.g i0).aW),(Zi (a.g i0).since)])) (some (AV.agg [(AV.str (b.g i0).name),(Zi (b.g i0).acc),(Zi (b.g i0).aW),(Zi (b.g i0).since)]))=some (AV.bool (!bn.eq (a.g i0) (b.g i0))):=bn.neq (a.g i0) (b.g i0)
   have Ky:AV.same 20 (AV.agg [(AV.str (a.g i0).name),(Zi (a.g i0).acc),(Zi (a.g i0).aW),(Zi (a.g i0).since)]) (AV.agg [(AV.str (a.g i0).name),(Zi (a.g i0).acc),(Zi (a.g i0).aW),(Zi (a.g i0).since)])=true:=cW 18 (eX (fun n=>aP n _) (eX (fun n=>aC n _ _) (eX (fun n=>aC n _ _) (eX (fun n=>aC n _ _) zG))))
   have ve:AV.same 20 (AV.agg [(AV.str (b.g i0).name),(Zi (b.g i0).acc),(Zi (b.g i0).aW),(Zi (b.g i0).since)]) (AV.agg [(AV.str (b.g i0).name),(Zi (b.g i0).acc),(Zi (b.g i0).aW),(Zi (b.g i0).since)])=true:=cW 18 (eX (fun n=>aP n _) (eX (fun n=>aC n _ _) (eX (fun n=>aC n _ _) (eX (fun n=>aC n _ _) zG))))
   rcases Bool.eq_false_or_eq_true (!bn.eq (a.g i0) (b.g i0)) with f1 | f1
   · exact aB.ret false (by simp only[eQ,f1,ak,ah]) (pk (d) _ _ hh _ hh (VV (aY 3 false false .i64 ((i0:Nat):Int) ((a.length:Nat):Int))<|BB q1<|CN 4<|VV ik<|MM ji<|CN 2<|VV yf<|MM Au<|VV zJ<|HH ji<|HH Ky<|HH Au<|HH ve<|BC f1<|ZZ) k!) (bW.refl aF) k!
   · have Dq:=eZ 3 false true i0 1 o!
     exact aB.round (by simp only[eQ,f1,ak,ah]) (pk (d) _ _ hh _ hh (VV (aY 3 false false .i64 ((i0:Nat):Int) ((a.length:Nat):Int))<|BB q1<|CN 4<|VV ik<|MM ji<|CN 2<|VV yf<|MM Au<|VV zJ<|HH ji<|HH Ky<|HH Au<|HH ve<|BV f1 Dq<|CC<|ZZ) k!) (bW.refl aF) _ k! (fun x=>lO aV bV a b bh di ma eC (i0+1) o! x hh aF aG)
def dX (a:List bn) (b:List bn):Bool:=(bif (!decide (((a.length:Nat):Int)=((b.length:Nat):Int))) then false else (match (eQ a b a.length 0) with | none=>true | some KL=>KL))
theorem CV {d:Nat} {h:ax} {aV bV:AV} (a:List bn) (b:List bn) (iS:aJ h aV a) (jF:aJ h bV b) (ca:Tidy h):cT (d+1) (.fn 71) [aV,bV] h= .ret (AV.bool (dX a b)) h:=by
 have RY:=iS.small
 have RZ:=jF.small
 have eb:cg (some (.slice 28)) (some aV)=some (Zn a.length):=iS.len
 have Ah:cg (some (.slice 28)) (some bV)=some (Zn b.length):=jF.len
 rcases Bool.eq_false_or_eq_true (!decide (((a.length:Nat):Int)=((b.length:Nat):Int))) with f0 | f0
 · have e_:=rO f0
   have e:dX a b=false:=by simp only[dX,f0,ak,ah]
   rw[e]
   exact aw rfl (aI Tryz.func71 oJ rfl (.inr rfl) (pk (d) _ _ h _ h (CN 2<|VV eb<|CC<|VV Ah<|VV (cf 3 false false .i64 ((a.length:Nat):Int) ((b.length:Nat):Int))<|BC f0<|ZZ) k!) k!) (Has.refl _) rfl
 · have e_:=rP f0
   have F':cg (some (.slice 28)) (some aV)=some (Zn a.length):=iS.len
   cases iF:eQ a b a.length 0 with
   | none=>
     obtain ⟨XY,h6,kO,kQ⟩:=aB.n iF (lO (d:=d) (h:=h) aV bV a b iS jF o! a.length 0 o! (fun k_=>((aV::bV::AV.undef::AV.undef::(AV.bool false)::AV.undef::aV::(Zn a.length)::bV::(Zn b.length)::(AV.bool (!decide (((a.length:Nat):Int)=((b.length:Nat):Int))))::aV::(Zn a.length)::(Zi 0)::jg 12):List AV).getD k_ AV.undef) h ca (Has.refl _))
     have kJ:=kQ.y
     have KM:h.nx≤h6.nx:=kQ.n
     have iC:Has h h6:=kQ.a
     have e:dX a b=true:=by simp only[dX,f0,iF,ak,ah]
     rw[e]
     exact aw rfl (aI Tryz.func71 oJ rfl (.inr rfl) (pk (d) _ _ h _ h6 (CN 2<|VV eb<|CC<|VV Ah<|VV (cf 3 false false .i64 ((a.length:Nat):Int) ((b.length:Nat):Int))<|BC f0<|VV F'<|CC<|LL kO<|CC<|ZZ) k!) k!) iC rfl
   | some KL=>
     obtain ⟨XY,h6,kO,kQ⟩:=aB.r iF (lO (d:=d) (h:=h) aV bV a b iS jF o! a.length 0 o! (fun k_=>((aV::bV::AV.undef::AV.undef::(AV.bool false)::AV.undef::aV::(Zn a.length)::bV::(Zn b.length)::(AV.bool (!decide (((a.length:Nat):Int)=((b.length:Nat):Int))))::aV::(Zn a.length)::(Zi 0)::jg 12):List AV).getD k_ AV.undef) h ca (Has.refl _))
     have kJ:=kQ.y
     have KM:h.nx≤h6.nx:=kQ.n
     have iC:Has h h6:=kQ.a
     have e:dX a b=KL:=by simp only[dX,f0,iF,ak,ah]
     rw[e]
     exact aw rfl (aI Tryz.func71 oJ rfl (.inr rfl) (pk (d) _ _ h _ h6 (CN 2<|VV eb<|CC<|VV Ah<|VV (cf 3 false false .i64 ((a.length:Nat):Int) ((b.length:Nat):Int))<|BC f0<|VV F'<|CC<|LL kO<|ZZ) k!) k!) iC rfl
end
end Go.Proofs.aM
