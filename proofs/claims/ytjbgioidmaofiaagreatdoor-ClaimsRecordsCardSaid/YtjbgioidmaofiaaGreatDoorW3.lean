import Derived.Test.YtjbgioidmaofiaaGreatDoorA8
import Derived.Test.YtjbgioidmaofiaaGreatDoorW0
import Derived.Test.YtjbgioidmaofiaaGreatDoorEnv
import Derived.Test.YtjbgioidmaofiaaGreatDoorW2
namespace Go.Proofs.aA
open Go.Proofs Ab
noncomputable section
set_option maxRecDepth 100000
set_option maxHeartbeats 4000000
set_option linter.unusedVariables false
set_option linter.unusedSimpArgs false
def oQ:Code:=(Tryz.f157.body).getD .skip
theorem DG:Tryz.f157.body=some oQ:=by kernel_rfl
def qM:Code:=(Tryz.f159.body).getD .skip
theorem HK:Tryz.f159.body=some qM:=by kernel_rfl
def oR:Code:=(Tryz.f107.body).getD .skip
theorem DH:Tryz.f107.body=some oR:=by kernel_rfl
def oS:Code:=(Tryz.f106.body).getD .skip
theorem DI:Tryz.f106.body=some oS:=by kernel_rfl
theorem IY {t:TypeId} {c d:Bool} {j:IntKind} {a s:Nat} {x y:Int} (hx:x=(a:Int)) (hy:y=(s:Int)∧s≤64):aN env .shr t c d (some (.int .i64 x)) (some (.int j y))=some (.int .i64 ((a/2^s:Nat):Int)):=by
 obtain ⟨rfl,hs⟩:=hy
 subst hx
 have h1:min s 64=s:=by omega
 have h2:((a:Int).fdiv (2^s))=((a/2^s:Nat):Int):=by
  rw[Int.fdiv_eq_ediv_of_nonneg _ (Int.pow_nonneg (by decide))]
  norm_cast
 simp only[aN,gH,Int.toNat_natCast]
 rw[if_neg o!]
 show some (AV.int .i64 ((a:Int).fdiv (2^(min s 64))))=_
 rw[h1,h2]
theorem HL {N:Nat} {e:TypeId} {i z:Nat} (hs:bh env e=some 1) (hz:z<N):bP env (some (.array N e)) (some (.ptr i 0)) (some (.int .i64 (z:Nat)))=some (.ptr i z):=by
 simp only[bP,hs]
 rw[if_pos ⟨by omega,by omega⟩,Int.toNat_natCast,Nat.zero_add,Nat.mul_one]
theorem pO {t e:TypeId} {p N lo hi w c:Nat} {IZ HM:Option AV} (ht:env.P.underlying t=some (.array N e)) (hs:bh env e=some 1) (hl:IZ=some (.int .i64 (lo:Nat))∨IZ=none∧lo=0) (hh:HM=some (.int .i64 (hi:Nat))∨HM=none∧hi=N) (h1:lo≤hi∧hi≤N) (h3:lo<N) (hw:w=hi - lo) (hc:c=N - lo):
 cK env t (.ptr p 0) IZ HM none=some (.slice p lo w c false):=by
 subst hw hc
 simp only[cK,ht,hs,j8 (len:=N) (cap:=N) IZ HM hl hh h1.1 h1.2]
 rw[if_neg o!,Nat.zero_add,Nat.mul_one]
def RI (l:List Nat):List UInt8:=l.map UInt8.ofNat
def Bn (h:ag) (i o n:Nat):Option AV:=match pq h i o n with
 | some l=>some (.str l)
 | none=>none
theorem zE {F:AV→Option UInt8} (hF:∀x:Nat,F (.int .u8 (x:Int))=some (UInt8.ofNat x)):∀(l:List Nat),cD F (aJ .u8 l)=some (RI l)
 | []=>rfl
 | x::l=>by
   have:=zE hF l
   simp only[aJ,List.map_cons,cD] at this ⊢
   rw[this,hF]
   rfl
theorem DJ {h:ag} {p o n:Nat} {R:List Nat} {f:TypeId} {ro:Bool} (hg:h.get p=some (.cells (aJ .u8 R) f ro)) (hn:o+n≤R.length):Bn h p o n=some (.str (RI ((R.drop o).take n))):=by
 have e:((aJ .u8 R).drop o).take n=aJ .u8 ((R.drop o).take n):=by simp [aJ,List.map_take,List.map_drop]
 simp only[Bn,pq,hg]
 rw[if_pos (by rw[dq];exact hn),e,zE (fun x=>by simp) _]
def lU (u:Nat):Nat:=if h:u<10 then 1 else lU (u/10)+1
termination_by u
decreasing_by omega
theorem oT {u:Nat} (h:u<10):lU u=1:=by rw[lU,dif_pos h]
theorem pP {u:Nat} (h:¬u<10):lU u=lU (u/10)+1:=by rw[lU,dif_neg h]
theorem oU:∀(n u:Nat),10^n≤u→u<10^(n+1)→lU u=n+1
 | 0,u,_,h=>oT (by simpa using h)
 | n+1,u,h1,h2=>by
   have h0:1≤10^n:=Nat.pow_pos (by decide)
   rw[Nat.pow_succ] at h1
   rw[pP o!,oU n (u/10) o! (by rw[Nat.pow_succ] at h2;omega)]
theorem oW:∀(u:Nat),u≠0→1≤lU u∧10^(lU u - 1)≤u∧u<10^lU u:=by
 intro u
 induction u using Nat.strongRecOn with
 | _ u ih=>
   intro hu
   by_cases q:u<10
   · rw[oT q];simp;omega
   · obtain ⟨h1,h2,h3⟩:=ih (u/10) o! o!
     rw[pP q]
     refine ⟨by omega,?_,?_⟩
     · rw[show lU (u/10)+1 - 1=lU (u/10) - 1+1 by omega,Nat.pow_succ];omega
     · rw[Nat.pow_succ];omega
def lz (u:Nat):List UInt8:=RI (dW u (lU u))
theorem M1:∀T<20,fL.getD T 0=10^T:=by decide+kernel
theorem Tu:∀L<65,0<L→L*78913/2^18<20∧(L*78913/2^18=0∨10^(L*78913/2^18 - 1)≤2^(L - 1))∧2^L≤10^(L*78913/2^18+1):=by decide+kernel
theorem DK {d:Nat} {h:ag} {x:Nat} (hx:x≤64):cC (d+1) (.fn 157) [.int .i64 (x:Nat)] h= .ret (.int .i64 ((x*78913/2^18:Nat):Int)) h:=by
 have w1:IntKind.i64.wrap (((x:Nat):Int)*78913)=((x:Nat):Int)*78913:=(wrap_i64 o! o!)
 have u2:aN env .shr 3 false true (some (AV.int .i64 (((x:Nat):Int)*78913))) (some (AV.int .u64 18))=some (AV.int .i64 (((x*78913) /2^18:Nat):Int)):=IY (a:=(x*78913)) o! o!
 have ev:=pk (d) oQ ((AV.int .i64 ((x:Nat):Int))::ck 5) h .ret h (CN 2<|VV (CM 3 false true w1)<|VV u2<|CC<|ZZ) (by kernel_rfl)
 exact ar rfl (aE Tryz.func157 DG (by kernel_rfl) (.inr rfl) ev (by kernel_rfl)) (Has.refl _) rfl
theorem Qh {d:Nat} {h:ag} {b:Bool}:cC (d+1) (.fn 159) [.bool b] h= .ret (.int .i64 (if b then 1 else 0)) h:=by
 cases b with
 | true=>
   have ev:=pk (d) qM ((AV.bool true)::ck 3) h .ret h (CN 2<|TT<|CC<|ZZ) (by kernel_rfl)
   exact ar rfl (aE Tryz.func159 HK (by kernel_rfl) (.inr rfl) ev (by kernel_rfl)) (Has.refl _) rfl
 | false=>
   have ev:=pk (d) qM ((AV.bool false)::ck 3) h .ret h (CN 2<|FF<|CC<|ZZ) (by kernel_rfl)
   exact ar rfl (aE Tryz.func159 HK (by kernel_rfl) (.inr rfl) ev (by kernel_rfl)) (Has.refl _) rfl
theorem um {d:Nat} {h:ag} {u:Nat} {f:TypeId} {ro:Bool} (M3:u≠0) (FX:u<18446744073709551616) (hG:h.get 0=some (.cells (aJ .u64 fL) f ro)):
 cC (d+2) (.fn 107) [.int .u64 (u:Nat)] h= .ret (.int .i64 (lU u:Nat)) h:=by
 obtain ⟨L,kL,bL,hL⟩:=P6 (d:=d) (h:=h) u FX
 obtain ⟨hLp,hL1,hL2⟩:0<L∧2^(L - 1)≤u∧u<2^L:=by
  rcases bL with ⟨h1,_⟩ | h1
  · exact absurd h1 M3
  · exact h1
 obtain ⟨t1,t2,t3⟩:=Tu L o! hLp
 have kT:=DK (d:=d) (h:=h) hL
 obtain ⟨T,hT⟩:∃T,T=L*78913/2^18:=⟨_,rfl⟩
 rw[←hT] at t1 t2 t3 kT
 obtain ⟨P,hP⟩:∃P,P=10^T:=⟨_,rfl⟩
 have kP:=IU (E:=env) (t:=12) (i:=T) (by kernel_rfl) hG (show T<20 from t1)
 rw[M1 T t1,←hP] at kP
 obtain ⟨B2,YK⟩:∃B2:Nat,B2=if P≤u then 1 else 0:=⟨_,rfl⟩
 have hB1:B2≤1:=by rw[YK];split<;>omega
 have kB:cC (d+1) (.fn 159) [.bool (decide (((P:Nat):Int)≤((u:Nat):Int)))] h= .ret (.int .i64 ((B2:Nat):Int)) h:=by
  rw[Qh,YK]
  by_cases q:P≤u
  · rw[if_pos q,decide_eq_true o!];rfl
  · rw[if_neg q,decide_eq_false o!];rfl
 have ix1:bP env (some (.array 20 73)) (some (AV.ptr 0 0)) (some (AV.int .i64 ((T:Nat):Int)))=some (AV.ptr 0 T):=HL (by kernel_rfl) o!
 have w2:IntKind.i64.wrap (((T:Nat):Int)+((B2:Nat):Int))=((T:Nat):Int)+((B2:Nat):Int):=(wrap_i64 o! o!)
 have ev:=pk (d+1) oR ((AV.int .u64 ((u:Nat):Int))::ck 14) h .ret h (CN 2<|EE kL<|EE kT<|CN 4<|VV ix1<|MM kP<|VV (cR 73 false false .u64 ((u:Nat):Int) ((P:Nat):Int))<|EE kB<|VV (mT 3 false false w2)<|CC<|ZZ) (by kernel_rfl)
 have e:((T:Nat):Int)+((B2:Nat):Int)=((lU u:Nat):Int):=by
  by_cases q:P≤u
  · rw[if_pos q] at YK
    rw[oU T u (by rw[←hP];exact q) (Nat.lt_of_lt_of_le hL2 t3)]
    omega
  · rw[if_neg q] at YK
    have hT0:T≠0:=fun e0=>by rw[e0] at hP;simp at hP;omega
    rcases t2 with t2 | t2
    · exact absurd t2 hT0
    · rw[oU (T - 1) u (Nat.le_trans t2 hL1) (by rw[show T - 1+1=T by omega,←hP];omega)]
      omega
 rw[←e]
 exact ar rfl (aE Tryz.func107 DH (by kernel_rfl) (.inr rfl) ev (by kernel_rfl)) (Has.refl _) rfl
theorem M4 {d:Nat} {h:ag} {u:Nat} (hu:u<100):cC (d+1) (.fn 106) [.int .i64 (u:Nat)] h= .ret (.str (lz u)) h:=by
 by_cases q:u<10
 · have q1:(decide (((u:Nat):Int)<10))=true:=(dT o!)
   have w2:IntKind.i64.wrap (((u:Nat):Int)+1)=((u:Nat):Int)+1:=(wrap_i64 o! o!)
   have sl3:cK env 9 (AV.str [48,49,50,51,52,53,54,55,56,57,97,98,99,100,101,102,103,104,105,106,107,108,109,110,111,112,113,114,115,116,117,118,119,120,121,122]) (some (AV.int .i64 ((u:Nat):Int))) (some (AV.int .i64 (((u:Nat):Int)+1))) (none)=some (AV.str (List.take ((u+1) - u) (List.drop u ([48,49,50,51,52,53,54,55,56,57,97,98,99,100,101,102,103,104,105,106,107,108,109,110,111,112,113,114,115,116,117,118,119,120,121,122])))):=zx (by kernel_rfl) o! o! o! (by first | omega | (simp;omega))
   have ev:=pk (d) oS ((AV.int .i64 ((u:Nat):Int))::ck 14) h .ret h (CN 2<|VV (bx 3 false true .i64 ((u:Nat):Int) 10)<|BB q1<|CN 2<|VV (mT 3 false true w2)<|QQ sl3<|CC<|ZZ) (by kernel_rfl)
   have t:∀u<10,List.take ((u+1) - u) (List.drop u ([48,49,50,51,52,53,54,55,56,57,97,98,99,100,101,102,103,104,105,106,107,108,109,110,111,112,113,114,115,116,117,118,119,120,121,122]))=RI (dW u 1):=by decide+kernel
   have e:lz u=List.take ((u+1) - u) (List.drop u ([48,49,50,51,52,53,54,55,56,57,97,98,99,100,101,102,103,104,105,106,107,108,109,110,111,112,113,114,115,116,117,118,119,120,121,122])):=by rw[lz,oT q,t u q]
   rw[e]
   exact ar rfl (aE Tryz.func106 DI (by kernel_rfl) (.inr rfl) ev (by kernel_rfl)) (Has.refl _) rfl
 · have q1:(decide (((u:Nat):Int)<10))=false:=(dF o!)
   have w2:IntKind.i64.wrap (((u:Nat):Int)*2)=((u:Nat):Int)*2:=(wrap_i64 o! o!)
   have w3:IntKind.i64.wrap ((((u:Nat):Int)*2)+2)=(((u:Nat):Int)*2)+2:=(wrap_i64 o! o!)
   have YL:cK env 9 (AV.str [48,48,48,49,48,50,48,51,48,52,48,53,48,54,48,55,48,56,48,57,49,48,49,49,49,50,49,51,49,52,49,53,49,54,49,55,49,56,49,57,50,48,50,49,50,50,50,51,50,52,50,53,50,54,50,55,50,56,50,57,51,48,51,49,51,50,51,51,51,52,51,53,51,54,51,55,51,56,51,57,52,48,52,49,52,50,52,51,52,52,52,53,52,54,52,55,52,56,52,57,53,48,53,49,53,50,53,51,53,52,53,53,53,54,53,55,53,56,53,57,54,48,54,49,54,50,54,51,54,52,54,53,54,54,54,55,54,56,54,57,55,48,55,49,55,50,55,51,55,52,55,53,55,54,55,55,55,56,55,57,56,48,56,49,56,50,56,51,56,52,56,53,56,54,56,55,56,56,56,57,57,48,57,49,57,50,57,51,57,52,57,53,57,54,57,55,57,56,57,57]) (some (AV.int .i64 (((u:Nat):Int)*2))) (some (AV.int .i64 ((((u:Nat):Int)*2)+2))) (none)=some (AV.str (List.take ((u*2+2) -(u*2)) (List.drop (u*2) ([48,48,48,49,48,50,48,51,48,52,48,53,48,54,48,55,48,56,48,57,49,48,49,49,49,50,49,51,49,52,49,53,49,54,49,55,49,56,49,57,50,48,50,49,50,50,50,51,50,52,50,53,50,54,50,55,50,56,50,57,51,48,51,49,51,50,51,51,51,52,51,53,51,54,51,55,51,56,51,57,52,48,52,49,52,50,52,51,52,52,52,53,52,54,52,55,52,56,52,57,53,48,53,49,53,50,53,51,53,52,53,53,53,54,53,55,53,56,53,57,54,48,54,49,54,50,54,51,54,52,54,53,54,54,54,55,54,56,54,57,55,48,55,49,55,50,55,51,55,52,55,53,55,54,55,55,55,56,55,57,56,48,56,49,56,50,56,51,56,52,56,53,56,54,56,55,56,56,56,57,57,48,57,49,57,50,57,51,57,52,57,53,57,54,57,55,57,56,57,57])))):=zx (by kernel_rfl) o! o! o! (by first | omega | (simp;omega))
   have ev:=pk (d) oS ((AV.int .i64 ((u:Nat):Int))::ck 14) h .ret h (CN 2<|VV (bx 3 false true .i64 ((u:Nat):Int) 10)<|BB q1<|CC<|VV (CM 3 false true w2)<|CC<|VV (CM 3 false true w2)<|VV (mT 3 false true w3)<|QQ YL<|CC<|ZZ) (by kernel_rfl)
   have t:∀u<100,¬u<10→List.take ((u*2+2) -(u*2)) (List.drop (u*2) ([48,48,48,49,48,50,48,51,48,52,48,53,48,54,48,55,48,56,48,57,49,48,49,49,49,50,49,51,49,52,49,53,49,54,49,55,49,56,49,57,50,48,50,49,50,50,50,51,50,52,50,53,50,54,50,55,50,56,50,57,51,48,51,49,51,50,51,51,51,52,51,53,51,54,51,55,51,56,51,57,52,48,52,49,52,50,52,51,52,52,52,53,52,54,52,55,52,56,52,57,53,48,53,49,53,50,53,51,53,52,53,53,53,54,53,55,53,56,53,57,54,48,54,49,54,50,54,51,54,52,54,53,54,54,54,55,54,56,54,57,55,48,55,49,55,50,55,51,55,52,55,53,55,54,55,55,55,56,55,57,56,48,56,49,56,50,56,51,56,52,56,53,56,54,56,55,56,56,56,57,57,48,57,49,57,50,57,51,57,52,57,53,57,54,57,55,57,56,57,57]))=RI (dW u 2):=by decide+kernel
   have e:lz u=List.take ((u*2+2) -(u*2)) (List.drop (u*2) ([48,48,48,49,48,50,48,51,48,52,48,53,48,54,48,55,48,56,48,57,49,48,49,49,49,50,49,51,49,52,49,53,49,54,49,55,49,56,49,57,50,48,50,49,50,50,50,51,50,52,50,53,50,54,50,55,50,56,50,57,51,48,51,49,51,50,51,51,51,52,51,53,51,54,51,55,51,56,51,57,52,48,52,49,52,50,52,51,52,52,52,53,52,54,52,55,52,56,52,57,53,48,53,49,53,50,53,51,53,52,53,53,53,54,53,55,53,56,53,57,54,48,54,49,54,50,54,51,54,52,54,53,54,54,54,55,54,56,54,57,55,48,55,49,55,50,55,51,55,52,55,53,55,54,55,55,55,56,55,57,56,48,56,49,56,50,56,51,56,52,56,53,56,54,56,55,56,56,56,57,57,48,57,49,57,50,57,51,57,52,57,53,57,54,57,55,57,56,57,57])):=by rw[lz,pP q,oT o!,t u hu q]
   rw[e]
   exact ar rfl (aE Tryz.func106 DI (by kernel_rfl) (.inr rfl) ev (by kernel_rfl)) (Has.refl _) rfl
def ib:Code:=(Tryz.f84.body).getD .skip
theorem m9:Tryz.f84.body=some ib:=by kernel_rfl
def oX:Code:=(Tryz.f49.body).getD .skip
theorem DL:Tryz.f49.body=some oX:=by kernel_rfl
theorem xD {n:Nat} (hn:n≤23):Holds .u8 (aJ .u8 (List.replicate 24 0)) 1 (List.replicate n 0):=fun i z hz=>by
 rw[List.getElem?_replicate] at hz
 split at hz
 · cases hz
   exact jt (by rw[List.getElem?_replicate,if_pos o!])
 · cases hz
theorem zF {n:Nat} {D:List Nat} (hn:n≤23) (hD:D.length=n):setFrom (aJ .u8 (List.replicate 24 0)) 1 (aJ .u8 D)=aJ .u8 (0::(D++List.replicate (23 - n) 0)):=by
 rw[LA (by rw[List.length_replicate];omega),hD,List.drop_replicate,show 24 -(1+n)=23 - n by omega]
 rfl
theorem M5 {h:ag} {p n u:Nat} {f:TypeId} {ro:Bool} (hn:n=lU u) (Zb:n≤23) (hg:h.get p=some (.cells (aJ .u8 (0::(dW u n++List.replicate (23 - n) 0))) f ro)):Bn h p 1 n=some (.str (lz u)):=by
 have e:((0::(dW u n++List.replicate (23 - n) 0)).drop 1).take n=dW u n:=by
  rw[List.drop_succ_cons,List.drop_zero,List.take_append_of_le_length (by rw[lT];omega),List.take_of_length_le (by rw[lT];omega)]
 have:=DJ (o:=1) (n:=n) hg (by simp [lT];omega)
 rw[e] at this
 rw[this,lz,←hn]
theorem M6 {h:ag} {p n u:Nat} {f:TypeId} {ro:Bool} (hn:n=lU u) (Zb:n≤23) (hg:h.get p=some (.cells (aJ .u8 ((0::(dW u n++List.replicate (23 - n) 0)).set 0 45)) f ro)):Bn h p 0 (n+1)=some (.str (45::lz u)):=by
 have e:(((0::(dW u n++List.replicate (23 - n) 0)).set 0 45).drop 0).take (n+1)=45::dW u n:=by
  rw[List.drop_zero,List.set_cons_zero,List.take_succ_cons,List.take_append_of_le_length (by rw[lT];omega),List.take_of_length_le (by rw[lT];omega)]
 have:=DJ (o:=0) (n:=n+1) hg (by simp only[List.length_set,List.length_cons,List.length_append,lT,List.length_replicate];omega)
 rw[e] at this
 rw[this,lz,←hn]
 rfl
theorem qN {u:Nat} (M3:u≠0) (FX:u<18446744073709551616):lU u≤20:=by
 obtain ⟨n1,n2,n3⟩:=oW u M3
 have:10^(lU u - 1)<10^20:=Nat.lt_of_le_of_lt n2 (Nat.lt_trans FX (by decide))
 have:=(Nat.pow_lt_pow_iff_right (by decide:1<10)).1 this
 omega
theorem m_ (x:Int):IntKind.u64.wrap x=x%18446744073709551616:=by
 show (if (false&&decide (x%2^64≥2^63))=true then x%2^64 - 2^64 else x%2^64)=_
 rw[if_neg (by simp)]
 omega
def W0 (m:Bool) (u:Nat):List UInt8:=if m then 45::lz u else lz u
theorem Bo {d:Nat} {h:ag} {u:Nat} {f:TypeId} {ro:Bool} (hu1:u<9223372036854775808) (hG:h.get 0=some (.cells (aJ .u64 fL) f ro)) (bK:Tidy h):
 cC (d+4) (.fn 84) [.int .i64 (u:Nat),.int .i64 10] h= .ret (.str (lz u)) h:=by
 by_cases hu:u<100
 · have q1:(decide (0≤((u:Nat):Int)))=true:=(dT o!)
   have q2:(decide (((u:Nat):Int)<100))=true:=(dT o!)
   have ev:=pk (d+3) ib ((AV.int .i64 ((u:Nat):Int))::(AV.int .i64 10)::ck 52) h .ret h (CN 3<|TT<|CC<|VV (tc 2 true false .i64 0 ((u:Nat):Int))<|CC<|BB q1<|CC<|BB q1<|VV (bx 2 false true .i64 ((u:Nat):Int) 100)<|VV (A_ (a:=some (AV.bool (decide (((u:Nat):Int)<100)))) (b:=some (AV.bool false)) q1)<|BB q2<|CC<|EE (show (cC (d+3)) (.fn 106) [(AV.int .i64 ((u:Nat):Int))] h= .ret (AV.str (lz u)) h from (M4 (d:=d+2) hu))<|CC<|ZZ) (by kernel_rfl)
   exact ar rfl (aE Tryz.func84 m9 (by kernel_rfl) (.inr rfl) ev (by kernel_rfl)) (Has.refl _) rfl
 · have M3:u≠0:=by omega
   have FX:u<18446744073709551616:=by omega
   have xE:=qN M3 FX
   obtain ⟨n1,n2,W1⟩:=oW u M3
   obtain ⟨n,hn⟩:∃n,n=lU u:=⟨_,rfl⟩
   rw[←hn] at n1 n2 W1 xE
   replace xE:n≤23:=by omega
   have ew:IntKind.u64.wrap ((u:Nat):Int)=((u:Nat):Int):=by rw[m_];omega
   clear n2
   have q1:(decide (0≤((u:Nat):Int)))=true:=(dT o!)
   have q2:(decide (((u:Nat):Int)<100))=false:=(dF o!)
   obtain ⟨h3,Qi,Qj,aaD,Tv,Tw⟩:=te bK (aw.cells [(AV.int .u8 0),(AV.int .u8 0),(AV.int .u8 0),(AV.int .u8 0),(AV.int .u8 0),(AV.int .u8 0),(AV.int .u8 0),(AV.int .u8 0),(AV.int .u8 0),(AV.int .u8 0),(AV.int .u8 0),(AV.int .u8 0),(AV.int .u8 0),(AV.int .u8 0),(AV.int .u8 0),(AV.int .u8 0),(AV.int .u8 0),(AV.int .u8 0),(AV.int .u8 0),(AV.int .u8 0),(AV.int .u8 0),(AV.int .u8 0),(AV.int .u8 0),(AV.int .u8 0)] 199 false)
   have I0:Has h h3:=Tw
   have W2:h3.get h.nx=some (aw.cells (aJ .u8 (List.replicate 24 0)) 199 false):=Tv
   have q4:(decide (((u:Nat):Int)<0))=false:=(dF o!)
   have w5:IntKind.i64.wrap (1+((n:Nat):Int))=1+((n:Nat):Int):=(wrap_i64 o! o!)
   have sl6:cK env 199 (AV.ptr h.nx 0) (some (AV.int .i64 1)) (some (AV.int .i64 (1+((n:Nat):Int)))) (none)=some (AV.slice h.nx 1 n 23 false):=pO (e:=5) (N:=24) (lo:=1) (hi:=(n+1)) (by kernel_rfl) (by kernel_rfl) (.inl rfl) (.inl (by rw[show ((1+((n:Nat):Int)):Int)=(((n+1):Nat):Int) by omega])) o! o! o! o!
   obtain ⟨h7,W3,Tx,F6⟩:=MZ (d:=d+2) (l:=List.replicate n 0) (u:=u) (p:=h.nx) (o:=1) (n:=n) (c:=23) (op:=false) (C:=aJ .u8 (List.replicate 24 0)) (f:=199) (by simp) o! (by rw[dq,List.length_replicate];omega) (xD xE) W2 W1 FX Qj
   have jJ:=Tx.1
   rw[←ew] at W3
   have RJ:=Tx.2.1
   rw[zF xE (lT _ _)] at RJ
   have hX:Has h h7:=Tx.has I0 bK o!
   have sl8:cK env 199 (AV.ptr h.nx 0) (some (AV.int .i64 1)) (some (AV.int .i64 (1+((n:Nat):Int)))) (none)=some (AV.slice h.nx 1 n 23 false):=pO (e:=5) (N:=24) (lo:=1) (hi:=(n+1)) (by kernel_rfl) (by kernel_rfl) (.inl rfl) (.inl (by rw[show ((1+((n:Nat):Int)):Int)=(((n+1):Nat):Int) by omega])) o! o! o! o!
   have cv9:Bn h7 h.nx 1 n=some (AV.str (lz u)):=M5 hn xE RJ
   have ev:=pk (d+3) ib ((AV.int .i64 ((u:Nat):Int))::(AV.int .i64 10)::ck 52) h .ret h7 (CN 3<|TT<|CC<|VV (tc 2 true false .i64 0 ((u:Nat):Int))<|CC<|BB q1<|CC<|BB q1<|VV (bx 2 false true .i64 ((u:Nat):Int) 100)<|VV (A_ (a:=some (AV.bool (decide (((u:Nat):Int)<100)))) (b:=some (AV.bool false)) q1)<|BB q2<|NN Qi (fun i=>(AV.ptr i 0))<|CN 4<|VV (bx 2 false true .i64 ((u:Nat):Int) 0)<|BB q4<|CC<|EE (show (cC (d+3)) (.fn 107) [(AV.int .u64 (IntKind.u64.wrap ((u:Nat):Int)))] h3= .ret (AV.int .i64 ((n:Nat):Int)) h3 from (by rw[ew,hn];exact um (d:=d+1) M3 FX (I0 _ _ hG)))<|CN 2<|VV (mT 3 true false w5)<|QQ sl6<|CC<|EE W3<|CC<|VV (bx 2 false true .i64 ((u:Nat):Int) 0)<|BB q4<|CC<|VV (mT 3 true false w5)<|QQ sl8<|MM cv9<|CC<|ZZ) (by kernel_rfl)
   exact ar rfl (aE Tryz.func84 m9 (by kernel_rfl) (.inr rfl) ev (by kernel_rfl)) hX rfl
theorem Bp {d:Nat} {h:ag} {u:Nat} {f:TypeId} {ro:Bool} (M3:u≠0) (hu1:u≤9223372036854775808) (hG:h.get 0=some (.cells (aJ .u64 fL) f ro)) (bK:Tidy h):
 cC (d+4) (.fn 84) [.int .i64 (-((u:Nat):Int)),.int .i64 10] h= .ret (.str (45::lz u)) h:=by
 have FX:u<18446744073709551616:=by omega
 have xE:=qN M3 FX
 obtain ⟨n1,n2,W1⟩:=oW u M3
 obtain ⟨n,hn⟩:∃n,n=lU u:=⟨_,rfl⟩
 rw[←hn] at n1 n2 W1 xE
 replace xE:n≤23:=by omega
 have ew:IntKind.u64.wrap (0 - IntKind.u64.wrap (-((u:Nat):Int)))=((u:Nat):Int):=by rw[m_,m_];omega
 clear n2
 have q1:(decide (0≤(-((u:Nat):Int))))=false:=(dF o!)
 obtain ⟨h2,DM,th,W5,DN,M7⟩:=te bK (aw.cells [(AV.int .u8 0),(AV.int .u8 0),(AV.int .u8 0),(AV.int .u8 0),(AV.int .u8 0),(AV.int .u8 0),(AV.int .u8 0),(AV.int .u8 0),(AV.int .u8 0),(AV.int .u8 0),(AV.int .u8 0),(AV.int .u8 0),(AV.int .u8 0),(AV.int .u8 0),(AV.int .u8 0),(AV.int .u8 0),(AV.int .u8 0),(AV.int .u8 0),(AV.int .u8 0),(AV.int .u8 0),(AV.int .u8 0),(AV.int .u8 0),(AV.int .u8 0),(AV.int .u8 0)] 199 false)
 have qO:Has h h2:=M7
 have W6:h2.get h.nx=some (aw.cells (aJ .u8 (List.replicate 24 0)) 199 false):=DN
 have q3:(decide ((-((u:Nat):Int))<0))=true:=(dT o!)
 have w4:IntKind.i64.wrap (1+((n:Nat):Int))=1+((n:Nat):Int):=(wrap_i64 o! o!)
 have sl5:cK env 199 (AV.ptr h.nx 0) (some (AV.int .i64 1)) (some (AV.int .i64 (1+((n:Nat):Int)))) (none)=some (AV.slice h.nx 1 n 23 false):=pO (e:=5) (N:=24) (lo:=1) (hi:=(n+1)) (by kernel_rfl) (by kernel_rfl) (.inl rfl) (.inl (by rw[show ((1+((n:Nat):Int)):Int)=(((n+1):Nat):Int) by omega])) o! o! o! o!
 obtain ⟨h6,W7,F4,F5⟩:=MZ (d:=d+2) (l:=List.replicate n 0) (u:=u) (p:=h.nx) (o:=1) (n:=n) (c:=23) (op:=false) (C:=aJ .u8 (List.replicate 24 0)) (f:=199) (by simp) o! (by rw[dq,List.length_replicate];omega) (xD xE) W6 W1 FX th
 have mr:=F4.1
 rw[←ew] at W7
 have M8:=F4.2.1
 rw[zF xE (lT _ _)] at M8
 have mu:Has h h6:=F4.has qO bK o!
 have JG:bP env (some (.array 24 5)) (some (AV.ptr h.nx 0)) (some (AV.int .i64 0))=some (AV.ptr h.nx 0):=HL (z:=0) (by kernel_rfl) o!
 obtain ⟨h8,M9⟩:∃hh:ag,hh=h6.put h.nx (some (aw.cells (aJ .u8 ((0::(dW u n++List.replicate (23 - n) 0)).set 0 45)) 199 false)):=⟨_,rfl⟩
 have yI:a_ env h6 5 (AV.ptr h.nx 0) (AV.int .u8 45)=some h8:=by rw[M9];exact FV (by kernel_rfl) M8 (show 0<(0::(dW u n++List.replicate (23 - n) 0)).length by simp)
 have DP:jS h6 h8 h.nx (aw.cells (aJ .u8 ((0::(dW u n++List.replicate (23 - n) 0)).set 0 45)) 199 false):=by rw[M9];exact bC mr M8
 have jK:=DP.1
 have Ty:h8.nx=h6.nx:=by rw[M9];rfl
 have iP:Has h h8:=DP.has mu bK o!
 have YM:cK env 199 (AV.ptr h.nx 0) (none) (some (AV.int .i64 (1+((n:Nat):Int)))) (none)=some (AV.slice h.nx 0 (n+1) 24 false):=pO (e:=5) (N:=24) (lo:=0) (hi:=(n+1)) (by kernel_rfl) (by kernel_rfl) (.inr ⟨rfl,rfl⟩) (.inl (by rw[show ((1+((n:Nat):Int)):Int)=(((n+1):Nat):Int) by omega])) o! o! o! o!
 have aaE:Bn h8 h.nx 0 (n+1)=some (AV.str (45::lz u)):=M6 hn xE DP.2.1
 have ev:=pk (d+3) ib ((AV.int .i64 (-((u:Nat):Int)))::(AV.int .i64 10)::ck 52) h .ret h8 (CN 3<|TT<|CC<|VV (tc 2 true false .i64 0 (-((u:Nat):Int)))<|CC<|BB q1<|BB q1<|VV (az (a:=some AV.undef) (b:=some (AV.bool false)) q1)<|FF<|NN DM (fun i=>(AV.ptr i 0))<|CN 4<|VV (bx 2 false true .i64 (-((u:Nat):Int)) 0)<|BB q3<|CN 4<|EE (show (cC (d+3)) (.fn 107) [(AV.int .u64 (IntKind.u64.wrap (0 -(IntKind.u64.wrap (-((u:Nat):Int))))))] h2= .ret (AV.int .i64 ((n:Nat):Int)) h2 from (by rw[ew,hn];exact um (d:=d+1) M3 FX (qO _ _ hG)))<|CN 2<|VV (mT 3 true false w4)<|QQ sl5<|CC<|EE W7<|CC<|VV (bx 2 false true .i64 (-((u:Nat):Int)) 0)<|BB q3<|VV JG<|SS yI<|CC<|VV (mT 3 true false w4)<|QQ YM<|MM aaE<|CC<|ZZ) (by kernel_rfl)
 exact ar rfl (aE Tryz.func84 m9 (by kernel_rfl) (.inr rfl) ev (by kernel_rfl)) iP rfl
def mw (z:Int):List UInt8:=W0 (decide (z<0)) z.natAbs
theorem rX {d:Nat} {h:ag} {z:Int} {f:TypeId} {ro:Bool} (h1: -9223372036854775808≤z) (h2:z<9223372036854775808) (hG:h.get 0=some (.cells (aJ .u64 fL) f ro)) (bK:Tidy h):
 cC (d+4) (.fn 84) [.int .i64 z,.int .i64 10] h= .ret (.str (mw z)) h:=by
 unfold mw
 by_cases q:z<0
 · rw[decide_eq_true q]
   have:=Bp (d:=d) (u:=z.natAbs) o! o! hG bK
   rw[show (-((z.natAbs:Nat):Int))=z by omega] at this
   exact this
 · rw[decide_eq_false q]
   have:=Bo (d:=d) (u:=z.natAbs) o! hG bK
   rw[show ((z.natAbs:Nat):Int)=z by omega] at this
   exact this
theorem DQ {d:Nat} {h:ag} {z:Int} {f:TypeId} {ro:Bool} (h1: -9223372036854775808≤z) (h2:z<9223372036854775808) (hG:h.get 0=some (.cells (aJ .u64 fL) f ro)) (bK:Tidy h):
 cC (d+5) (.fn 49) [.int .i64 z,.int .i64 10] h= .ret (.str (mw z)) h:=by
 have ev:=pk (d+4) oX ((AV.int .i64 z)::(AV.int .i64 10)::ck 6) h .ret h (CN 3<|EE (show (cC (d+4)) (.fn 84) [(AV.int .i64 z),(AV.int .i64 10)] h= .ret (AV.str (mw z)) h from rX (d:=d) h1 h2 hG bK)<|CC<|ZZ) (by kernel_rfl)
 exact ar rfl (aE Tryz.func49 DL (by kernel_rfl) (.inr rfl) ev (by kernel_rfl)) (Has.refl _) rfl
def aq (a b:Int):Int:=IntKind.u64.wrap ((BitVec.ofInt IntKind.u64.bits a^^^BitVec.ofInt IntKind.u64.bits b).toNat:Nat)
def ak (a b:Int):Int:=IntKind.u64.wrap ((BitVec.ofInt IntKind.u64.bits a&&& BitVec.ofInt IntKind.u64.bits b).toNat:Nat)
def ab (x n:Int):Int:=x.fdiv (2^(min n.toNat IntKind.u64.bits))
def m64 (a b:Int):Int:=IntKind.u64.wrap (a*b)
def kY (l:List UInt8):List Int:=l.map fun b=>((b.toNat:Nat):Int)
theorem F7 (l:List UInt8):(kY l).length=l.length:=List.length_map ..
theorem I1 (l:List UInt8):List.map (fun b=>AV.int .u8 b.toNat) l=zs .u8 (kY l):=by
 rw[zs,kY,List.map_map];rfl
theorem Tz {d:Nat} {h:ag} {q n c:Nat} {op:Bool} {l:List (List UInt8)} {sep:List UInt8} {el:TypeId} {ro:Bool} (hg:h.get q=some (.cells (l.map .str) el ro)) (hn:l.length=n) (hc:n≤c) (VA:n≤100000) (hl:(Lib.join l sep).length≤1000000000):
 cC (d+1) (.fn 50) [.slice q 0 n c op,.str sep] h= .ret (.str (Lib.join l sep)) h:=by
 have e:M0 50 [.slice q 0 n c op,.str sep] h=some (.str (Lib.join l sep),h):=by
  show Dw [.slice q 0 n c op,.str sep] h=_
  subst hn
  unfold Dw
  simp only[hg,List.length_map,Nat.zero_add]
  rw[if_pos ⟨Nat.le_refl _,hc,VA⟩,List.drop_zero,List.take_of_length_le (by rw[List.length_map];exact Nat.le_refl _),Dv]
  simp only[hl,if_true]
 show dg env M0 (d+1) (.fn 50) _ h=_
 simp only[dg,e]
theorem Bq {d:Nat} {h:ag} (hG:h.get 0=some (aw.cells (aJ .u64 fL) 230 true)):cC (d+1) (.fn 5) [] h= .ret (.bool true) h:=by
 have e:M0 5 [] h=some (.bool true,h):=by
  show LB [] h=_
  unfold LB
  rw[Lu hG]
 show dg env M0 (d+1) (.fn 5) _ h=_
 simp only[dg,e]
theorem rY {z:Int} (h1: -9223372036854775808≤z) (h2:z<9223372036854775808):(mw z).length≤30:=by
 have hd:∀u<18446744073709551616,(lz u).length≤20:=fun u hu=>by
  rw[lz,RI,List.length_map,lT]
  by_cases q:u=0
  · subst q;decide+kernel
  · exact qN q hu
 unfold mw W0
 have:=hd z.natAbs o!
 split
 · rw[List.length_cons];omega
 · omega
theorem DS {a b c d e:List UInt8} {n:Nat} (ha:a.length≤n) (hb:b.length≤n) (hc:c.length≤n) (hd:d.length≤n) (he:e.length≤n):(Lib.join [a,b,c,d,e] [32]).length≤5*n+4:=by
 simp only[Lib.join_cons,Lib.joinTail,List.map_cons,List.map_nil,List.flatten_cons,List.flatten_nil,List.length_append,List.length_cons,List.length_nil]
 omega
theorem tj (t:TypeId) (c d:Bool) (a b:List UInt8) (h:a.length+b.length<1099511627776):aN env .add t c d (some (.str a)) (some (.str b))=some (.str (a++b)):=by
 simp [aN,gH,mF,h]
theorem Qk {h:ag} {p:Nat} {z:Int} {f:TypeId} {ro:Bool} (hg:h.get p=some (.cells [.int .u8 z] f ro)):Bn h p 0 1=some (.str [UInt8.ofNat z.toNat]):=by
 simp only[Bn,pq,hg];rfl
def Br (n:Int) (k:Nat):Prop:=k≤20∧-1000000000000000000≤n∧n≤1000000000000000000∧((0≤n∧n<10^k∧1≤k)∨(n<0∧-n<10^(k - 1)∧1≤k))
theorem I2 (n:Int):¬Br n 0:=by rintro ⟨_,_,_,h | h⟩<;>omega
theorem HO {n:Int} {k:Nat} (h:Br n (k+1)):k≤20:=by have:=h.1;omega
theorem M_ {n:Int} (h0: -1000000000000000000≤n) (h1:n≤1000000000000000000):Br n 20:=by
 refine ⟨Nat.le_refl _,h0,h1,?_⟩
 by_cases hn:0≤n
 · exact .inl ⟨hn,by omega,by omega⟩
 · exact .inr ⟨by omega,by omega,by omega⟩
theorem DT {n:Int} {k:Nat} (h:Br n (k+1)) (hn:n<0):Br (IntKind.i64.wrap (0 - n)) k:=by
 have hw:IntKind.i64.wrap (0 - n)= -n:=by rw[wrap_i64 (by have:=h.2.1;omega) (by have:=h.2.1;omega)];omega
 rw[hw]
 obtain ⟨a,b,c,h | h⟩:=h
 · omega
 · refine ⟨by omega,by omega,by omega,.inl ⟨by omega,h.2.1,?_⟩⟩
   rcases Nat.eq_zero_or_pos k with hk | hk
   · subst hk;have:=h.2.1;simp at this;omega
   · exact hk
theorem DU {n:Int} {k:Nat} (h:Br n (k+1)) (hn:10≤n):Br (IntKind.i64.wrap (Int.tdiv n 10)) k:=by
 have hq:Int.tdiv n 10=n/10:=Int.tdiv_eq_ediv_of_nonneg o!
 have hw:IntKind.i64.wrap (Int.tdiv n 10)=n/10:=by rw[hq,wrap_i64 o! (by have:=h.2.2.1;omega)]
 rw[hw]
 obtain ⟨a,b,c,h | h⟩:=h
 · have h2:=h.2.1
   rw[Int.pow_succ] at h2
   refine ⟨by omega,by omega,by omega,.inl ⟨by omega,by omega,?_⟩⟩
   rcases Nat.eq_zero_or_pos k with hk | hk
   · subst hk;simp at h2;omega
   · exact hk
 · omega
def xF:Code:=(Tryz.f51.body).getD .skip
theorem oY:Tryz.f51.body=some xF:=by kernel_rfl
def aP:Nat→Int→List UInt8
 | 0,_=> []
 | xG+1,n=>(bif (decide (n<0)) then ([45]++(aP xG (IntKind.i64.wrap (0 - n)))) else (bif (decide (10≤n)) then ((aP xG (IntKind.i64.wrap (Int.tdiv n 10)))++([UInt8.ofNat (IntKind.u8.wrap (IntKind.i64.wrap (48+(Int.tmod n 10)))).toNat])) else ([UInt8.ofNat (IntKind.u8.wrap (IntKind.i64.wrap (48+(Int.tmod n 10)))).toNat])))
theorem dK:∀(k:Nat) (n:Int),(aP k n).length≤k
 | 0,_=>Nat.le_refl _
 | k+1,n=>by
   have h1:=dK k (IntKind.i64.wrap (0 - n));have h2:=dK k (IntKind.i64.wrap (Int.tdiv n 10))
   simp only[aP]
   cases decide (n<0)<;>cases decide (10≤n)<;>simp only[ah,ae,List.length_append,List.length_cons,List.length_nil]<;>omega
theorem oZ {d:Nat}:∀(xG:Nat) (h:ag) (n:Int) (xH:Br n xG) (bK:Tidy h),cC (d+xG+1) (.fn 51) [(Zi n)] h= .ret (AV.str (aP xG n)) h
 | 0,h,n,xH,bK=>by exact absurd xH (I2 n)
 | xG+1,h,n,xH,bK=>by
   rcases Bool.eq_false_or_eq_true (decide (n<0)) with f0 | f0
   · have eg:=of_decide_eq_true f0
     have RK:(aP xG (IntKind.i64.wrap (0 - n))).length≤20:=Nat.le_trans (dK xG (IntKind.i64.wrap (0 - n))) (HO xH)
     have k2:=oZ (d:=d) xG h (IntKind.i64.wrap (0 - n)) (by first | exact DT xH eg | exact DU xH fq) bK
     have u3:=tj 9 true false [45] (aP xG (IntKind.i64.wrap (0 - n))) (by first | omega | (simp only[List.length_append,List.length_cons,List.length_nil];omega) | (simp;omega))
     have e:aP (xG+1) n=([45]++(aP xG (IntKind.i64.wrap (0 - n)))):=by simp only[aP,f0,ah,ae]
     rw[e]
     exact ar rfl (aE Tryz.func51 oY rfl (.inr rfl) (pk (d+xG+1) _ _ h _ h (CN 2<|VV (bx 2 false true .i64 n 0)<|BB f0<|CN 2<|EE k2<|VV u3<|CC<|ZZ) k!) k!) (Has.refl _) rfl
   · have eg:=of_decide_eq_false f0
     obtain ⟨h2,DM,th,W5,DN,M7⟩:=te bK (aw.cells [(AV.int .u8 (IntKind.u8.wrap (IntKind.i64.wrap (48+(Int.tmod n 10)))))] 5 false)
     have qO:Has h h2:=M7
     have cv3:Bn h2 h.nx 0 1=some (AV.str ([UInt8.ofNat (IntKind.u8.wrap (IntKind.i64.wrap (48+(Int.tmod n 10)))).toNat])):=Qk DN
     rcases Bool.eq_false_or_eq_true (decide (10≤n)) with f1 | f1
     · have fq:=of_decide_eq_true f1
       have abL:(aP xG (IntKind.i64.wrap (Int.tdiv n 10))).length≤20:=Nat.le_trans (dK xG (IntKind.i64.wrap (Int.tdiv n 10))) (HO xH)
       have k5:=oZ (d:=d) xG h2 (IntKind.i64.wrap (Int.tdiv n 10)) (by first | exact DT xH eg | exact DU xH fq) th
       have u6:=tj 9 false false (aP xG (IntKind.i64.wrap (Int.tdiv n 10))) ([UInt8.ofNat (IntKind.u8.wrap (IntKind.i64.wrap (48+(Int.tmod n 10)))).toNat]) (by first | omega | (simp only[List.length_append,List.length_cons,List.length_nil];omega) | (simp;omega))
       have e:aP (xG+1) n=((aP xG (IntKind.i64.wrap (Int.tdiv n 10)))++([UInt8.ofNat (IntKind.u8.wrap (IntKind.i64.wrap (48+(Int.tmod n 10)))).toNat])):=by simp only[aP,f0,f1,ah,ae]
       rw[e]
       exact ar rfl (aE Tryz.func51 oY rfl (.inr rfl) (pk (d+xG+1) _ _ h _ h2 (CN 2<|VV (bx 2 false true .i64 n 0)<|BB f0<|CN 4<|NN DM (fun i=>(AV.slice i 0 1 1 false))<|MM cv3<|CN 2<|VV (cR 2 false true .i64 n 10)<|BB f1<|CN 2<|EE k5<|CC<|VV u6<|CN 3<|ZZ) k!) k!) qO rfl
     · have fq:=of_decide_eq_false f1
       have e:aP (xG+1) n=([UInt8.ofNat (IntKind.u8.wrap (IntKind.i64.wrap (48+(Int.tmod n 10)))).toNat]):=by simp only[aP,f0,f1,ah,ae]
       rw[e]
       exact ar rfl (aE Tryz.func51 oY rfl (.inr rfl) (pk (d+xG+1) _ _ h _ h2 (CN 2<|VV (bx 2 false true .i64 n 0)<|BB f0<|CN 4<|NN DM (fun i=>(AV.slice i 0 1 1 false))<|MM cv3<|CN 2<|VV (cR 2 false true .i64 n 10)<|BB f1<|CN 2<|ZZ) k!) k!) qO rfl
theorem uo {d:Nat} {h:ag} (n:Int) (xH:Br n 20) (bK:Tidy h):cC (d+21) (.fn 51) [(Zi n)] h= .ret (AV.str (aP 20 n)) h:=
 oZ 20 h n xH bK
def DV:Code:=(Tryz.f27.body).getD .skip
theorem M':Tryz.f27.body=some DV:=by kernel_rfl
def cr (x_:Fact):List UInt8:=((((((((((aP 20 x_.time)++[32])++x_.kind)++[32])++x_.item)++[32])++x_.bl)++[32])++(aP 20 x_.number))++[10])
theorem DW {d:Nat} {h:ag} (x_:Fact) (F8:au.ok h x_) (F9:x_.kind.length≤1000) (I3:x_.item.length≤1000) (TA:x_.bl.length≤1000) (TB:0≤x_.time) (TC:x_.time≤1000000) (TD: -1000000000000≤x_.number) (pre6:x_.number≤1000000000000) (bK:Tidy h):cC (d+22) (.fn 27) [(AV.agg [(Zi x_.time),(AV.str x_.kind),(AV.str x_.item),(AV.str x_.bl),(Zi x_.number)])] h= .ret (AV.str (cr x_)) h:=by
 obtain ⟨h1,my,j0,F_,b7,tk⟩:=te bK (aw.cells [(Zi x_.time),(AV.str x_.kind),(AV.str x_.item),(AV.str x_.bl),(Zi x_.number)] 40 false)
 have iQ:Has h h1:=tk
 have RK:(aP 20 x_.time).length≤20:=dK 20 x_.time
 have k2:=uo (d:=d) x_.time (by first | omega | exact M_ o! o!) j0
 have u3:=tj 9 false true (aP 20 x_.time) [32] (by first | omega | (simp only[List.length_append,List.length_cons,List.length_nil];omega) | (simp;omega))
 have u4:=tj 9 false false ((aP 20 x_.time)++[32]) x_.kind (by first | omega | (simp only[List.length_append,List.length_cons,List.length_nil];omega) | (simp;omega))
 have u5:=tj 9 false true (((aP 20 x_.time)++[32])++x_.kind) [32] (by first | omega | (simp only[List.length_append,List.length_cons,List.length_nil];omega) | (simp;omega))
 have u6:=tj 9 false false ((((aP 20 x_.time)++[32])++x_.kind)++[32]) x_.item (by first | omega | (simp only[List.length_append,List.length_cons,List.length_nil];omega) | (simp;omega))
 have u7:=tj 9 false true (((((aP 20 x_.time)++[32])++x_.kind)++[32])++x_.item) [32] (by first | omega | (simp only[List.length_append,List.length_cons,List.length_nil];omega) | (simp;omega))
 have u8:=tj 9 false false ((((((aP 20 x_.time)++[32])++x_.kind)++[32])++x_.item)++[32]) x_.bl (by first | omega | (simp only[List.length_append,List.length_cons,List.length_nil];omega) | (simp;omega))
 have u9:=tj 9 false true (((((((aP 20 x_.time)++[32])++x_.kind)++[32])++x_.item)++[32])++x_.bl) [32] (by first | omega | (simp only[List.length_append,List.length_cons,List.length_nil];omega) | (simp;omega))
 have aaH:(aP 20 x_.number).length≤20:=dK 20 x_.number
 have yE:=uo (d:=d) x_.number (by first | omega | exact M_ o! o!) j0
 have JF:=tj 9 false false ((((((((aP 20 x_.time)++[32])++x_.kind)++[32])++x_.item)++[32])++x_.bl)++[32]) (aP 20 x_.number) (by first | omega | (simp only[List.length_append,List.length_cons,List.length_nil];omega) | (simp;omega))
 have P_:=tj 9 false true (((((((((aP 20 x_.time)++[32])++x_.kind)++[32])++x_.item)++[32])++x_.bl)++[32])++(aP 20 x_.number)) [10] (by first | omega | (simp only[List.length_append,List.length_cons,List.length_nil];omega) | (simp;omega))
 have e:cr x_=((((((((((aP 20 x_.time)++[32])++x_.kind)++[32])++x_.item)++[32])++x_.bl)++[32])++(aP 20 x_.number))++[10]):=by simp only[cr,ah,ae]
 rw[e]
 exact ar rfl (aE Tryz.func27 M' rfl (.inr rfl) (pk (d+21) _ _ h _ h1 (NN my (fun i=>(Pt i))<|CN 2<|MM (aX 3 0 (Zi x_.time) b7 k!)<|CC<|MM (aX 9 1 (AV.str x_.kind) b7 k!)<|CC<|MM (aX 9 2 (AV.str x_.item) b7 k!)<|CC<|MM (aX 9 3 (AV.str x_.bl) b7 k!)<|CC<|MM (aX 2 4 (Zi x_.number) b7 k!)<|EE k2<|VV u3<|VV u4<|VV u5<|VV u6<|VV u7<|VV u8<|VV u9<|EE yE<|VV JF<|VV P_<|CC<|HH (aX 3 0 (Zi x_.time) b7 k!)<|HH (show AV.same 20 (Zi x_.time) (Zi x_.time)=true from aL 19 _ _)<|HH (aX 9 1 (AV.str x_.kind) b7 k!)<|HH (show AV.same 20 (AV.str x_.kind) (AV.str x_.kind)=true from aK 19 _)<|HH (aX 9 1 (AV.str x_.kind) b7 k!)<|HH (show AV.same 20 (AV.str x_.kind) (AV.str x_.kind)=true from aK 19 _)<|HH (aX 9 1 (AV.str x_.kind) b7 k!)<|HH (show AV.same 20 (AV.str x_.kind) (AV.str x_.kind)=true from aK 19 _)<|HH (aX 9 2 (AV.str x_.item) b7 k!)<|HH (show AV.same 20 (AV.str x_.item) (AV.str x_.item)=true from aK 19 _)<|HH (aX 9 2 (AV.str x_.item) b7 k!)<|HH (show AV.same 20 (AV.str x_.item) (AV.str x_.item)=true from aK 19 _)<|HH (aX 9 2 (AV.str x_.item) b7 k!)<|HH (show AV.same 20 (AV.str x_.item) (AV.str x_.item)=true from aK 19 _)<|HH (aX 9 3 (AV.str x_.bl) b7 k!)<|HH (show AV.same 20 (AV.str x_.bl) (AV.str x_.bl)=true from aK 19 _)<|HH (aX 9 3 (AV.str x_.bl) b7 k!)<|HH (show AV.same 20 (AV.str x_.bl) (AV.str x_.bl)=true from aK 19 _)<|HH (aX 9 3 (AV.str x_.bl) b7 k!)<|HH (show AV.same 20 (AV.str x_.bl) (AV.str x_.bl)=true from aK 19 _)<|HH (aX 2 4 (Zi x_.number) b7 k!)<|HH (show AV.same 20 (Zi x_.number) (Zi x_.number)=true from aL 19 _ _)<|HH (aX 2 4 (Zi x_.number) b7 k!)<|HH (show AV.same 20 (Zi x_.number) (Zi x_.number)=true from aL 19 _ _)<|ZZ) k!) k!) iQ rfl
def Bs:Code:=(Tryz.f83.body).getD .skip
theorem I4:Tryz.f83.body=some Bs:=by kernel_rfl
def pQ (i:Int):List UInt8:=(mw i)
theorem I5 {d:Nat} {h:ag} (i:Int) (hG:h.get 0=some (aw.cells (aJ .u64 fL) 230 true)) (F9: -9223372036854775808≤i) (I3:i<9223372036854775808) (bK:Tidy h):cC (d+5) (.fn 83) [(Zi i)] h= .ret (AV.str (pQ i)) h:=by
 have k1:=rX (d:=d) (z:=i) o! o! hG bK
 have e:pQ i=(mw i):=by simp only[pQ,ah,ae]
 rw[e]
 exact ar rfl (aE Tryz.func83 I4 rfl (.inr rfl) (pk (d+4) _ _ h _ h (CN 2<|EE k1<|CC<|ZZ) k!) k!) (Has.refl _) rfl
def DX:Code:=(Tryz.f48.body).getD .skip
theorem Na:Tryz.f48.body=some DX:=by kernel_rfl
def iJ (i:Int):List UInt8:=(pQ i)
theorem Nb {d:Nat} {h:ag} (i:Int) (hG:h.get 0=some (aw.cells (aJ .u64 fL) 230 true)) (F9: -9223372036854775808≤i) (I3:i<9223372036854775808) (bK:Tidy h):cC (d+6) (.fn 48) [(Zi i)] h= .ret (AV.str (iJ i)) h:=by
 have k1:=I5 (d:=d) i hG (by first | omega | assumption | (simp only[List.length_set,List.length_replicate,List.length_append,List.length_cons,List.length_nil,List.nil_append]<;>omega) | (rw[List.length_take];omega)) (by first | omega | assumption | (simp only[List.length_set,List.length_replicate,List.length_append,List.length_cons,List.length_nil,List.nil_append]<;>omega) | (rw[List.length_take];omega)) bK
 have e:iJ i=(pQ i):=by simp only[iJ,ah,ae]
 rw[e]
 exact ar rfl (aE Tryz.func48 Na rfl (.inr rfl) (pk (d+5) _ _ h _ h (CN 2<|EE k1<|CC<|ZZ) k!) k!) (Has.refl _) rfl
def yJ:Code:=(Tryz.f24.body).getD .skip
theorem F':Tryz.f24.body=some yJ:=by kernel_rfl
def aM (f:Fact):List UInt8:=((Lib.join [(iJ f.time),f.kind,f.item,f.bl,(mw f.number)] [32])++[10])
theorem xI {d:Nat} {h:ag} (f:Fact) (UZ:au.ok h f) (hG:h.get 0=some (aw.cells (aJ .u64 fL) 230 true)) (F9:f.kind.length≤1000) (I3:f.item.length≤1000) (TA:f.bl.length≤1000) (TB:0≤f.time) (TC:f.time≤1000000) (TD: -9223372036854775808≤f.number) (pre6:f.number<9223372036854775808) (bK:Tidy h):cC (d+7) (.fn 24) [(AV.agg [(Zi f.time),(AV.str f.kind),(AV.str f.item),(AV.str f.bl),(Zi f.number)])] h= .ret (AV.str (aM f)) h:=by
 obtain ⟨h1,my,j0,F_,b7,tk⟩:=te bK (aw.cells [(Zi f.time),(AV.str f.kind),(AV.str f.item),(AV.str f.bl),(Zi f.number)] 40 false)
 have iQ:Has h h1:=tk
 have RK:(iJ f.time).length≤30:=rY o! o!
 have k2:=Nb (d:=d) f.time (iQ _ _ hG) (by first | omega | assumption | (simp only[List.length_set,List.length_replicate,List.length_append,List.length_cons,List.length_nil,List.nil_append]<;>omega) | (rw[List.length_take];omega)) (by first | omega | assumption | (simp only[List.length_set,List.length_replicate,List.length_append,List.length_cons,List.length_nil,List.nil_append]<;>omega) | (rw[List.length_take];omega)) j0
 have k3:=DQ (d:=d+1) (z:=f.number) o! o! (iQ _ _ hG) j0
 have abM:(mw f.number).length≤30:=rY o! o!
 obtain ⟨h4,aaI,Ga,ack,W8,Qm⟩:=te j0 (aw.cells [(AV.str (iJ f.time)),(AV.str f.kind),(AV.str f.item),(AV.str f.bl),(AV.str (mw f.number))] 9 false)
 have uG:Has h h4:=iQ.trans Qm
 have abN:(Lib.join [(iJ f.time),f.kind,f.item,f.bl,(mw f.number)] [32]).length≤5*1000+4:=DS o! o! o! o! o!
 have k5:=Tz (d:=d+5) (q:=h1.nx) (l:=[(iJ f.time),f.kind,f.item,f.bl,(mw f.number)]) (sep:=[32]) (n:=5) (c:=5) (op:=false) W8 rfl (by decide) (by decide) o!
 have u6:=tj 9 false true (Lib.join [(iJ f.time),f.kind,f.item,f.bl,(mw f.number)] [32]) [10] (by first | omega | (simp only[List.length_append,List.length_cons,List.length_nil];omega) | (simp;omega))
 have e:aM f=((Lib.join [(iJ f.time),f.kind,f.item,f.bl,(mw f.number)] [32])++[10]):=by simp only[aM,ah,ae]
 rw[e]
 exact ar rfl (aE Tryz.func24 F' rfl (.inr rfl) (pk (d+6) _ _ h _ h4 (NN my (fun i=>(Pt i))<|CN 2<|MM (aX 3 0 (Zi f.time) b7 k!)<|CC<|MM (aX 9 1 (AV.str f.kind) b7 k!)<|CC<|MM (aX 9 2 (AV.str f.item) b7 k!)<|CC<|MM (aX 9 3 (AV.str f.bl) b7 k!)<|CC<|MM (aX 2 4 (Zi f.number) b7 k!)<|EE k2<|EE k3<|NN aaI (fun i=>(AV.slice i 0 5 5 false))<|CC<|HH (aX 3 0 (Zi f.time) b7 k!)<|HH (show AV.same 20 (Zi f.time) (Zi f.time)=true from aL 19 _ _)<|HH (aX 9 1 (AV.str f.kind) b7 k!)<|HH (show AV.same 20 (AV.str f.kind) (AV.str f.kind)=true from aK 19 _)<|HH (aX 9 1 (AV.str f.kind) b7 k!)<|HH (show AV.same 20 (AV.str f.kind) (AV.str f.kind)=true from aK 19 _)<|HH (aX 9 1 (AV.str f.kind) (Qm _ _ b7) k!)<|HH (show AV.same 20 (AV.str f.kind) (AV.str f.kind)=true from aK 19 _)<|HH (aX 9 2 (AV.str f.item) b7 k!)<|HH (show AV.same 20 (AV.str f.item) (AV.str f.item)=true from aK 19 _)<|HH (aX 9 2 (AV.str f.item) b7 k!)<|HH (show AV.same 20 (AV.str f.item) (AV.str f.item)=true from aK 19 _)<|HH (aX 9 2 (AV.str f.item) (Qm _ _ b7) k!)<|HH (show AV.same 20 (AV.str f.item) (AV.str f.item)=true from aK 19 _)<|HH (aX 9 3 (AV.str f.bl) b7 k!)<|HH (show AV.same 20 (AV.str f.bl) (AV.str f.bl)=true from aK 19 _)<|HH (aX 9 3 (AV.str f.bl) b7 k!)<|HH (show AV.same 20 (AV.str f.bl) (AV.str f.bl)=true from aK 19 _)<|HH (aX 9 3 (AV.str f.bl) (Qm _ _ b7) k!)<|HH (show AV.same 20 (AV.str f.bl) (AV.str f.bl)=true from aK 19 _)<|HH (aX 2 4 (Zi f.number) b7 k!)<|HH (show AV.same 20 (Zi f.number) (Zi f.number)=true from aL 19 _ _)<|HH (aX 2 4 (Zi f.number) b7 k!)<|HH (show AV.same 20 (Zi f.number) (Zi f.number)=true from aL 19 _ _)<|HH (show ∃o,h4.get h1.nx=some o∧aw.same o (aw.cells [(AV.str (iJ f.time)),(AV.str f.kind),(AV.str f.item),(AV.str f.bl),(AV.str (mw f.number))] 9 false)=true from ⟨_,W8,by simp [aw.same,dO,AV.same]⟩)<|CC<|EE k5<|VV u6<|CC<|ZZ) k!) k!) uG rfl
theorem Nc (u:Nat):(IntKind.u8.wrap (IntKind.i64.wrap (48+(Int.tmod (u:Int) 10)))).toNat=48+u%10:=by
 have a:Int.tmod (u:Int) 10=((u%10:Nat):Int):=by
  rw[Int.tmod_eq_emod_of_nonneg o!];omega
 have b:u%10<10:=Nat.mod_lt _ o!
 rw[a,wrap_i64 o! o!]
 have c:IntKind.u8.wrap (48+((u%10:Nat):Int))=48+((u%10:Nat):Int):=by
  show (48+((u%10:Nat):Int))%256=_
  omega
 rw[c];omega
theorem Bt:∀(k u:Nat),u<10^k→1≤k→u≤1000000000000000000→aP k (u:Int)=lz u
 | 0,u,_,h,_=>by omega
 | k+1,u,hu,_,hb=>by
   rw[aP,decide_eq_false (by omega:¬((u:Int)<0)),ae,Nc]
   by_cases t:u<10
   · rw[decide_eq_false (by omega:¬((10:Int)≤(u:Int))),ae,lz,oT t];rfl
   · have q:IntKind.i64.wrap (Int.tdiv (u:Int) 10)=((u/10:Nat):Int):=by
      rw[Int.tdiv_eq_ediv_of_nonneg o!,wrap_i64 o! o!];omega
     have hk:1≤k:=by
      rcases Nat.eq_zero_or_pos k with z | z
      · subst z;simp at hu;omega
      · exact z
     rw[decide_eq_true (by omega:((10:Int)≤(u:Int))),ah,q,Bt k (u/10) (by rw[Nat.pow_succ] at hu;omega) hk o!,lz,lz,pP t,dW,RI,RI,List.map_append];rfl
theorem Nd {z:Int} (h1: -1000000000000000000≤z) (h2:z≤1000000000000000000):aP 20 z=mw z:=by
 rw[mw]
 by_cases q:z<0
 · have w:IntKind.i64.wrap (0 - z)=((z.natAbs:Nat):Int):=by rw[wrap_i64 o! o!];omega
   rw[aP,decide_eq_true q,ah,w,Bt 19 z.natAbs o! o! o!];rfl
 · have w:z=((z.natAbs:Nat):Int):=by omega
   have e:=Bt 20 z.natAbs o! o! o!
   rw[←w] at e
   rw[e,decide_eq_false q];rfl
theorem Qo {f:Fact} (h3:0≤f.time) (h4:f.time≤1000000) (h5: -1000000000000≤f.number) (h6:f.number≤1000000000000):aM f=cr f:=by
 rw[aM,cr,Nd o! o!,Nd o! o!,iJ,pQ]
 simp [Lib.join]
def uH:Code:=(Tryz.f53.body).getD .skip
theorem rZ:Tryz.f53.body=some uH:=by kernel_rfl
def dC (n:Int):Bool:=(bif (decide ((-1000000000000)≤n)) then (decide (n≤1000000000000)) else false)
theorem Bu {d:Nat} {h:ag} (n:Int) (bK:Tidy h):cC (d+1) (.fn 53) [(Zi n)] h= .ret (AV.bool (dC n)) h:=by
 rcases Bool.eq_false_or_eq_true (decide ((-1000000000000)≤n)) with f0 | f0
 · have eg:=of_decide_eq_true f0
   have e:dC n=(decide (n≤1000000000000)):=by simp only[dC,f0,ah,ae]
   rw[e]
   exact ar rfl (aE Tryz.func53 rZ rfl (.inr rfl) (pk (d) _ _ h _ h (CN 2<|VV (cR 2 false true .i64 n (-1000000000000))<|CC<|BC f0<|BV f0 (tc 2 false true .i64 n 1000000000000)<|VV (nG (decide (n≤1000000000000)) false f0)<|CC<|ZZ) k!) k!) (Has.refl _) rfl
 · have eg:=of_decide_eq_false f0
   have e:dC n=false:=by simp only[dC,f0,ah,ae]
   rw[e]
   exact ar rfl (aE Tryz.func53 rZ rfl (.inr rfl) (pk (d) _ _ h _ h (CN 2<|VV (cR 2 false true .i64 n (-1000000000000))<|CC<|BB f0<|BV f0 (Bf false f0)<|CC<|ZZ) k!) k!) (Has.refl _) rfl
def fQ:Code:=(Tryz.f54.body).getD .skip
theorem qP:Tryz.f54.body=some fQ:=by kernel_rfl
def Bv:Code:=(bY fQ).getD 0 .skip
def na:Code:=(jb fQ).getD 1 .skip
def nb:Code:=(jb fQ).getD 6 .skip
def j1:Code:=(jb fQ).getD 7 .skip
def j2:Code:=(jb fQ).getD 8 .skip
def ez (ba:List UInt8):Nat→Nat→Option (Bool)
 | 0,_=>none
 | eX+1,i0=>(bif (bif (!(bif (decide (97≤(((ba.g i0).toNat:Nat):Int))) then (decide ((((ba.g i0).toNat:Nat):Int)≤122)) else false)) then (bif (decide (((i0:Nat):Int)=0)) then true else (!(bif (decide (48≤(((ba.g i0).toNat:Nat):Int))) then (bif (decide ((((ba.g i0).toNat:Nat):Int)≤57)) then true else (decide ((((ba.g i0).toNat:Nat):Int)=45))) else (decide ((((ba.g i0).toNat:Nat):Int)=45))))) else false) then some false else ez ba eX (i0+1))
theorem lV {d:Nat} {h:ag} (ba:List UInt8) (aR:ba.length<2^60):∀(k_ i_:Nat) (_:i_+k_=(List.length ba)) (x:Nat→AV) (hh:ag) (aO:Tidy hh) (aF:Has h hh),aD (cC (d)) Bv ⟨((AV.str ba)::rx x 1 13 ((Zn (List.length ba))::(Zn i_)::rx x 16 39 [])),hh,[],.no⟩ (.exit 0) hh (fun y=>((AV.str ba)::rx y 1 13 ((Zn (List.length ba))::rx y 15 40 []))) (fun r y=>((AV.str ba)::(y 1)::(AV.bool r)::rx y 3 11 ((Zn (List.length ba))::rx y 15 40 []))) (ez ba k_ i_)
 | 0,i0,nR,x,hh,aO,aF=>by
   have q1:(decide (((i0:Nat):Int)<((List.length ba:Nat):Int)))=false:=d!
   exact aD.out rfl (pk (d) _ _ hh _ hh (VV (bx 3 false false .i64 ((i0:Nat):Int) ((List.length ba:Nat):Int))<|BB q1<|ZZ) k!) (cf.refl aO) k!
 | eX+1,i0,nR,x,hh,aO,aF=>by
   have q1:(decide (((i0:Nat):Int)<((List.length ba:Nat):Int)))=true:=d!
   obtain ⟨JH,Nf⟩:∃JH:Nat→AV,Ev env (cC (d)) nb ⟨((AV.str ba)::(x 1)::(x 2)::(Zn i0)::rx x 4 10 ((Zn (List.length ba))::(Zn i0)::(AV.bool (decide (((i0:Nat):Int)<((List.length ba:Nat):Int))))::(Zn i0)::rx x 18 37 [])),hh,[],.no⟩ .normal ⟨((AV.str ba)::(x 1)::(x 2)::(Zn i0)::(AV.bool (bif (decide (97≤(((ba.g i0).toNat:Nat):Int))) then (decide ((((ba.g i0).toNat:Nat):Int)≤122)) else false))::rx x 5 9 ((Zn (List.length ba))::(Zn i0)::(AV.bool (decide (((i0:Nat):Int)<((List.length ba:Nat):Int))))::(Zn i0)::rx JH 18 10 (rx x 28 27 []))),hh,[],.no⟩:=by
    have yK:im env (some .string) (some (AV.str ba)) (some (Zn i0))=some (AV.int .u8 (((ba.g i0).toNat:Nat):Int)):=jj (j:=i0) o!
    rcases Bool.eq_false_or_eq_true (decide (97≤(((ba.g i0).toNat:Nat):Int))) with f0 | f0
    · have eg:=of_decide_eq_true f0
      have U0:im env (some .string) (some (AV.str ba)) (some (Zn i0))=some (AV.int .u8 (((ba.g i0).toNat:Nat):Int)):=jj (j:=i0) o!
      have ev:=pk (d) nb ((AV.str ba)::(x 1)::(x 2)::(Zn i0)::rx x 4 10 ((Zn (List.length ba))::(Zn i0)::(AV.bool (decide (((i0:Nat):Int)<((List.length ba:Nat):Int))))::(Zn i0)::rx x 18 37 [])) hh .normal hh (CN 2<|VV yK<|VV (cR 5 false true .u8 (((ba.g i0).toNat:Nat):Int) 97)<|CC<|BC f0<|BC f0<|BV f0 U0<|BV f0 (tc 5 false true .u8 (((ba.g i0).toNat:Nat):Int) 122)<|VV (nG (decide ((((ba.g i0).toNat:Nat):Int)≤122)) false f0)<|CC<|ZZ) k!
      rw[show (bif (decide (97≤(((ba.g i0).toNat:Nat):Int))) then (decide ((((ba.g i0).toNat:Nat):Int)≤122)) else false)=(decide ((((ba.g i0).toNat:Nat):Int)≤122)) by simp only[f0,ah,ae]]
      exact mq ev k!
    · have eg:=of_decide_eq_false f0
      have ev:=pk (d) nb ((AV.str ba)::(x 1)::(x 2)::(Zn i0)::rx x 4 10 ((Zn (List.length ba))::(Zn i0)::(AV.bool (decide (((i0:Nat):Int)<((List.length ba:Nat):Int))))::(Zn i0)::rx x 18 37 [])) hh .normal hh (CN 2<|VV yK<|VV (cR 5 false true .u8 (((ba.g i0).toNat:Nat):Int) 97)<|CC<|BB f0<|BB f0<|BB f0<|BV f0 (Bf false f0)<|CC<|ZZ) k!
      rw[show (bif (decide (97≤(((ba.g i0).toNat:Nat):Int))) then (decide ((((ba.g i0).toNat:Nat):Int)≤122)) else false)=false by simp only[f0,ah,ae]]
      exact mq ev k!
   obtain ⟨TF,Ng⟩:∃TF:Nat→AV,Ev env (cC (d)) j1 ⟨((AV.str ba)::(x 1)::(x 2)::(Zn i0)::(AV.bool (bif (decide (97≤(((ba.g i0).toNat:Nat):Int))) then (decide ((((ba.g i0).toNat:Nat):Int)≤122)) else false))::rx x 5 9 ((Zn (List.length ba))::(Zn i0)::(AV.bool (decide (((i0:Nat):Int)<((List.length ba:Nat):Int))))::(Zn i0)::rx JH 18 10 (rx x 28 27 []))),hh,[],.no⟩ .normal ⟨((AV.str ba)::(x 1)::(x 2)::(Zn i0)::(AV.bool (bif (decide (97≤(((ba.g i0).toNat:Nat):Int))) then (decide ((((ba.g i0).toNat:Nat):Int)≤122)) else false))::(AV.bool (bif (decide (48≤(((ba.g i0).toNat:Nat):Int))) then (bif (decide ((((ba.g i0).toNat:Nat):Int)≤57)) then true else (decide ((((ba.g i0).toNat:Nat):Int)=45))) else (decide ((((ba.g i0).toNat:Nat):Int)=45))))::rx x 6 8 ((Zn (List.length ba))::(Zn i0)::(AV.bool (decide (((i0:Nat):Int)<((List.length ba:Nat):Int))))::(Zn i0)::rx JH 18 10 (rx TF 28 16 (rx x 44 11 [])))),hh,[],.no⟩:=by
    have ma:im env (some .string) (some (AV.str ba)) (some (Zn i0))=some (AV.int .u8 (((ba.g i0).toNat:Nat):Int)):=jj (j:=i0) o!
    rcases Bool.eq_false_or_eq_true (decide (48≤(((ba.g i0).toNat:Nat):Int))) with f0 | f0
    · have eg:=of_decide_eq_true f0
      have UX:im env (some .string) (some (AV.str ba)) (some (Zn i0))=some (AV.int .u8 (((ba.g i0).toNat:Nat):Int)):=jj (j:=i0) o!
      rcases Bool.eq_false_or_eq_true (decide ((((ba.g i0).toNat:Nat):Int)≤57)) with f1 | f1
      · have fq:=of_decide_eq_true f1
        have ev:=pk (d) j1 ((AV.str ba)::(x 1)::(x 2)::(Zn i0)::(AV.bool (bif (decide (97≤(((ba.g i0).toNat:Nat):Int))) then (decide ((((ba.g i0).toNat:Nat):Int)≤122)) else false))::rx x 5 9 ((Zn (List.length ba))::(Zn i0)::(AV.bool (decide (((i0:Nat):Int)<((List.length ba:Nat):Int))))::(Zn i0)::rx JH 18 10 (rx x 28 27 []))) hh .normal hh (CN 2<|VV ma<|VV (cR 5 false true .u8 (((ba.g i0).toNat:Nat):Int) 48)<|CC<|BC f0<|BC f0<|BV f0 UX<|BV f0 (tc 5 false true .u8 (((ba.g i0).toNat:Nat):Int) 57)<|VV (nG (decide ((((ba.g i0).toNat:Nat):Int)≤57)) false f0)<|CC<|BB f1<|BB f1<|BB f1<|BV f1 (uE true f1)<|CC<|ZZ) k!
        rw[show (bif (decide (48≤(((ba.g i0).toNat:Nat):Int))) then (bif (decide ((((ba.g i0).toNat:Nat):Int)≤57)) then true else (decide ((((ba.g i0).toNat:Nat):Int)=45))) else (decide ((((ba.g i0).toNat:Nat):Int)=45)))=true by simp only[f0,f1,ah,ae]]
        exact mq ev k!
      · have fq:=of_decide_eq_false f1
        have JG:im env (some .string) (some (AV.str ba)) (some (Zn i0))=some (AV.int .u8 (((ba.g i0).toNat:Nat):Int)):=jj (j:=i0) o!
        have ev:=pk (d) j1 ((AV.str ba)::(x 1)::(x 2)::(Zn i0)::(AV.bool (bif (decide (97≤(((ba.g i0).toNat:Nat):Int))) then (decide ((((ba.g i0).toNat:Nat):Int)≤122)) else false))::rx x 5 9 ((Zn (List.length ba))::(Zn i0)::(AV.bool (decide (((i0:Nat):Int)<((List.length ba:Nat):Int))))::(Zn i0)::rx JH 18 10 (rx x 28 27 []))) hh .normal hh (CN 2<|VV ma<|VV (cR 5 false true .u8 (((ba.g i0).toNat:Nat):Int) 48)<|CC<|BC f0<|BC f0<|BV f0 UX<|BV f0 (tc 5 false true .u8 (((ba.g i0).toNat:Nat):Int) 57)<|VV (nG (decide ((((ba.g i0).toNat:Nat):Int)≤57)) false f0)<|CC<|BC f1<|BC f1<|BV f1 JG<|BV f1 (ly 5 false true .u8 (((ba.g i0).toNat:Nat):Int) 45)<|VV (az (a:=some (AV.bool true)) (b:=some (AV.bool (decide ((((ba.g i0).toNat:Nat):Int)=45)))) f1)<|CC<|ZZ) k!
        rw[show (bif (decide (48≤(((ba.g i0).toNat:Nat):Int))) then (bif (decide ((((ba.g i0).toNat:Nat):Int)≤57)) then true else (decide ((((ba.g i0).toNat:Nat):Int)=45))) else (decide ((((ba.g i0).toNat:Nat):Int)=45)))=(decide ((((ba.g i0).toNat:Nat):Int)=45)) by simp only[f0,f1,ah,ae]]
        exact mq ev k!
    · have eg:=of_decide_eq_false f0
      have UX:im env (some .string) (some (AV.str ba)) (some (Zn i0))=some (AV.int .u8 (((ba.g i0).toNat:Nat):Int)):=jj (j:=i0) o!
      have ev:=pk (d) j1 ((AV.str ba)::(x 1)::(x 2)::(Zn i0)::(AV.bool (bif (decide (97≤(((ba.g i0).toNat:Nat):Int))) then (decide ((((ba.g i0).toNat:Nat):Int)≤122)) else false))::rx x 5 9 ((Zn (List.length ba))::(Zn i0)::(AV.bool (decide (((i0:Nat):Int)<((List.length ba:Nat):Int))))::(Zn i0)::rx JH 18 10 (rx x 28 27 []))) hh .normal hh (CN 2<|VV ma<|VV (cR 5 false true .u8 (((ba.g i0).toNat:Nat):Int) 48)<|CC<|BB f0<|BB f0<|BB f0<|BV f0 (Bf false f0)<|CC<|FF<|CC<|FF<|CC<|FF<|VV UX<|FF<|VV (ly 5 false true .u8 (((ba.g i0).toNat:Nat):Int) 45)<|CN 2<|ZZ) k!
      rw[show (bif (decide (48≤(((ba.g i0).toNat:Nat):Int))) then (bif (decide ((((ba.g i0).toNat:Nat):Int)≤57)) then true else (decide ((((ba.g i0).toNat:Nat):Int)=45))) else (decide ((((ba.g i0).toNat:Nat):Int)=45)))=(decide ((((ba.g i0).toNat:Nat):Int)=45)) by simp only[f0,ah,ae]]
      exact mq ev k!
   obtain ⟨yj4,Nh⟩:∃yj4:Nat→AV,Ev env (cC (d)) j2 ⟨((AV.str ba)::(x 1)::(x 2)::(Zn i0)::(AV.bool (bif (decide (97≤(((ba.g i0).toNat:Nat):Int))) then (decide ((((ba.g i0).toNat:Nat):Int)≤122)) else false))::(AV.bool (bif (decide (48≤(((ba.g i0).toNat:Nat):Int))) then (bif (decide ((((ba.g i0).toNat:Nat):Int)≤57)) then true else (decide ((((ba.g i0).toNat:Nat):Int)=45))) else (decide ((((ba.g i0).toNat:Nat):Int)=45))))::rx x 6 8 ((Zn (List.length ba))::(Zn i0)::(AV.bool (decide (((i0:Nat):Int)<((List.length ba:Nat):Int))))::(Zn i0)::rx JH 18 10 (rx TF 28 16 (rx x 44 11 [])))),hh,[],.no⟩ .normal ⟨((AV.str ba)::(x 1)::(x 2)::(Zn i0)::(AV.bool (bif (decide (97≤(((ba.g i0).toNat:Nat):Int))) then (decide ((((ba.g i0).toNat:Nat):Int)≤122)) else false))::(AV.bool (bif (decide (48≤(((ba.g i0).toNat:Nat):Int))) then (bif (decide ((((ba.g i0).toNat:Nat):Int)≤57)) then true else (decide ((((ba.g i0).toNat:Nat):Int)=45))) else (decide ((((ba.g i0).toNat:Nat):Int)=45))))::rx x 6 8 ((Zn (List.length ba))::(Zn i0)::(AV.bool (decide (((i0:Nat):Int)<((List.length ba:Nat):Int))))::(Zn i0)::rx JH 18 10 (rx TF 28 16 (rx yj4 44 9 ((AV.bool (bif (!(bif (decide (97≤(((ba.g i0).toNat:Nat):Int))) then (decide ((((ba.g i0).toNat:Nat):Int)≤122)) else false)) then (bif (decide (((i0:Nat):Int)=0)) then true else (!(bif (decide (48≤(((ba.g i0).toNat:Nat):Int))) then (bif (decide ((((ba.g i0).toNat:Nat):Int)≤57)) then true else (decide ((((ba.g i0).toNat:Nat):Int)=45))) else (decide ((((ba.g i0).toNat:Nat):Int)=45))))) else false))::(x 54)::[]))))),hh,[],.no⟩:=by
    rcases Bool.eq_false_or_eq_true (!(bif (decide (97≤(((ba.g i0).toNat:Nat):Int))) then (decide ((((ba.g i0).toNat:Nat):Int)≤122)) else false)) with f0 | f0
    · rcases Bool.eq_false_or_eq_true (decide (((i0:Nat):Int)=0)) with f1 | f1
      · have fq:=of_decide_eq_true f1
        have ev:=pk (d) j2 ((AV.str ba)::(x 1)::(x 2)::(Zn i0)::(AV.bool (bif (decide (97≤(((ba.g i0).toNat:Nat):Int))) then (decide ((((ba.g i0).toNat:Nat):Int)≤122)) else false))::(AV.bool (bif (decide (48≤(((ba.g i0).toNat:Nat):Int))) then (bif (decide ((((ba.g i0).toNat:Nat):Int)≤57)) then true else (decide ((((ba.g i0).toNat:Nat):Int)=45))) else (decide ((((ba.g i0).toNat:Nat):Int)=45))))::rx x 6 8 ((Zn (List.length ba))::(Zn i0)::(AV.bool (decide (((i0:Nat):Int)<((List.length ba:Nat):Int))))::(Zn i0)::rx JH 18 10 (rx TF 28 16 (rx x 44 11 [])))) hh .normal hh (CN 3<|BC f0<|BV f0 (ly 3 false true .i64 ((i0:Nat):Int) 0)<|BC f0<|BB f1<|BB f1<|BV f0 (uE true f1)<|VV (nG true false f0)<|ZZ) k!
        rw[show (bif (!(bif (decide (97≤(((ba.g i0).toNat:Nat):Int))) then (decide ((((ba.g i0).toNat:Nat):Int)≤122)) else false)) then (bif (decide (((i0:Nat):Int)=0)) then true else (!(bif (decide (48≤(((ba.g i0).toNat:Nat):Int))) then (bif (decide ((((ba.g i0).toNat:Nat):Int)≤57)) then true else (decide ((((ba.g i0).toNat:Nat):Int)=45))) else (decide ((((ba.g i0).toNat:Nat):Int)=45))))) else false)=true by simp only[f0,f1,ah,ae]]
        exact mq ev k!
      · have fq:=of_decide_eq_false f1
        have ev:=pk (d) j2 ((AV.str ba)::(x 1)::(x 2)::(Zn i0)::(AV.bool (bif (decide (97≤(((ba.g i0).toNat:Nat):Int))) then (decide ((((ba.g i0).toNat:Nat):Int)≤122)) else false))::(AV.bool (bif (decide (48≤(((ba.g i0).toNat:Nat):Int))) then (bif (decide ((((ba.g i0).toNat:Nat):Int)≤57)) then true else (decide ((((ba.g i0).toNat:Nat):Int)=45))) else (decide ((((ba.g i0).toNat:Nat):Int)=45))))::rx x 6 8 ((Zn (List.length ba))::(Zn i0)::(AV.bool (decide (((i0:Nat):Int)<((List.length ba:Nat):Int))))::(Zn i0)::rx JH 18 10 (rx TF 28 16 (rx x 44 11 [])))) hh .normal hh (CN 3<|BC f0<|BV f0 (ly 3 false true .i64 ((i0:Nat):Int) 0)<|BC f0<|BC f1<|BC f1<|BV f0 (az (a:=some (AV.bool true)) (b:=some (AV.bool (!(bif (decide (48≤(((ba.g i0).toNat:Nat):Int))) then (bif (decide ((((ba.g i0).toNat:Nat):Int)≤57)) then true else (decide ((((ba.g i0).toNat:Nat):Int)=45))) else (decide ((((ba.g i0).toNat:Nat):Int)=45)))))) f1)<|VV (nG (!(bif (decide (48≤(((ba.g i0).toNat:Nat):Int))) then (bif (decide ((((ba.g i0).toNat:Nat):Int)≤57)) then true else (decide ((((ba.g i0).toNat:Nat):Int)=45))) else (decide ((((ba.g i0).toNat:Nat):Int)=45)))) false f0)<|ZZ) k!
        rw[show (bif (!(bif (decide (97≤(((ba.g i0).toNat:Nat):Int))) then (decide ((((ba.g i0).toNat:Nat):Int)≤122)) else false)) then (bif (decide (((i0:Nat):Int)=0)) then true else (!(bif (decide (48≤(((ba.g i0).toNat:Nat):Int))) then (bif (decide ((((ba.g i0).toNat:Nat):Int)≤57)) then true else (decide ((((ba.g i0).toNat:Nat):Int)=45))) else (decide ((((ba.g i0).toNat:Nat):Int)=45))))) else false)=(!(bif (decide (48≤(((ba.g i0).toNat:Nat):Int))) then (bif (decide ((((ba.g i0).toNat:Nat):Int)≤57)) then true else (decide ((((ba.g i0).toNat:Nat):Int)=45))) else (decide ((((ba.g i0).toNat:Nat):Int)=45)))) by simp only[f0,f1,ah,ae]]
        exact mq ev k!
    · have ev:=pk (d) j2 ((AV.str ba)::(x 1)::(x 2)::(Zn i0)::(AV.bool (bif (decide (97≤(((ba.g i0).toNat:Nat):Int))) then (decide ((((ba.g i0).toNat:Nat):Int)≤122)) else false))::(AV.bool (bif (decide (48≤(((ba.g i0).toNat:Nat):Int))) then (bif (decide ((((ba.g i0).toNat:Nat):Int)≤57)) then true else (decide ((((ba.g i0).toNat:Nat):Int)=45))) else (decide ((((ba.g i0).toNat:Nat):Int)=45))))::rx x 6 8 ((Zn (List.length ba))::(Zn i0)::(AV.bool (decide (((i0:Nat):Int)<((List.length ba:Nat):Int))))::(Zn i0)::rx JH 18 10 (rx TF 28 16 (rx x 44 11 [])))) hh .normal hh (CN 3<|BB f0<|BB f0<|BB f0<|BV f0 (Bf false f0)<|ZZ) k!
      rw[show (bif (!(bif (decide (97≤(((ba.g i0).toNat:Nat):Int))) then (decide ((((ba.g i0).toNat:Nat):Int)≤122)) else false)) then (bif (decide (((i0:Nat):Int)=0)) then true else (!(bif (decide (48≤(((ba.g i0).toNat:Nat):Int))) then (bif (decide ((((ba.g i0).toNat:Nat):Int)≤57)) then true else (decide ((((ba.g i0).toNat:Nat):Int)=45))) else (decide ((((ba.g i0).toNat:Nat):Int)=45))))) else false)=false by simp only[f0,ah,ae]]
      exact mq ev k!
   rcases Bool.eq_false_or_eq_true (bif (!(bif (decide (97≤(((ba.g i0).toNat:Nat):Int))) then (decide ((((ba.g i0).toNat:Nat):Int)≤122)) else false)) then (bif (decide (((i0:Nat):Int)=0)) then true else (!(bif (decide (48≤(((ba.g i0).toNat:Nat):Int))) then (bif (decide ((((ba.g i0).toNat:Nat):Int)≤57)) then true else (decide ((((ba.g i0).toNat:Nat):Int)=45))) else (decide ((((ba.g i0).toNat:Nat):Int)=45))))) else false) with f1 | f1
   · exact aD.ret false (by simp only[ez,f1,ah,ae]) (pk (d) _ _ hh _ hh (VV (bx 3 false false .i64 ((i0:Nat):Int) ((List.length ba:Nat):Int))<|BB q1<|CN 2<|LL Nf<|LL Ng<|LL Nh<|BC f1<|ZZ) k!) (cf.refl aO) k!
   · have u6:=iD 3 false true i0 1 o!
     exact aD.round (by simp only[ez,f1,ah,ae]) (pk (d) _ _ hh _ hh (VV (bx 3 false false .i64 ((i0:Nat):Int) ((List.length ba:Nat):Int))<|BB q1<|CN 2<|LL Nf<|LL Ng<|LL Nh<|BV f1 u6<|CC<|ZZ) k!) (cf.refl aO) _ k! (fun x=>lV ba aR eX (i0+1) o! x hh aO aF)
def cg (ba:List UInt8):Bool:=(bif (bif (decide (ba=[])) then true else (decide (16<((List.length ba:Nat):Int)))) then false else (match (ez ba (List.length ba) 0) with | none=>true | some Gb=>Gb))
theorem qQ {d:Nat} {h:ag} (ba:List UInt8) (Bw:ba.length<2^60) (bK:Tidy h):cC (d+1) (.fn 54) [(AV.str ba)] h= .ret (AV.bool (cg ba)) h:=by
 obtain ⟨YN,Gc⟩:∃YN:Nat→AV,Ev env (cC (d)) na ⟨((AV.str ba)::AV.undef::(AV.bool false)::ck 52),h,[],.no⟩ .normal ⟨((AV.str ba)::AV.undef::(AV.bool false)::AV.undef::AV.undef::AV.undef::rx YN 6 6 ((AV.bool (bif (decide (ba=[])) then true else (decide (16<((List.length ba:Nat):Int)))))::ck 42)),h,[],.no⟩:=by
  rcases Bool.eq_false_or_eq_true (decide (ba=[])) with f0 | f0
  · have eg:=of_decide_eq_true f0
    have ev:=pk (d) na ((AV.str ba)::AV.undef::(AV.bool false)::ck 52) h .normal h (CC<|VV (Wc 9 false true ba [])<|CC<|BB f0<|BB f0<|BV f0 (uE true f0)<|ZZ) k!
    rw[show (bif (decide (ba=[])) then true else (decide (16<((List.length ba:Nat):Int))))=true by simp only[f0,ah,ae]]
    exact mq ev k!
  · have eg:=of_decide_eq_false f0
    have sn2:ba.length<2^60:=Bw
    have ev:=pk (d) na ((AV.str ba)::AV.undef::(AV.bool false)::ck 52) h .normal h (CC<|VV (Wc 9 false true ba [])<|CC<|BC f0<|BC f0<|BV f0 (cb 3 false true .i64 ((List.length ba:Nat):Int) 16)<|VV (az (a:=some (AV.bool true)) (b:=some (AV.bool (decide (16<((List.length ba:Nat):Int))))) f0)<|ZZ) k!
    rw[show (bif (decide (ba=[])) then true else (decide (16<((List.length ba:Nat):Int))))=(decide (16<((List.length ba:Nat):Int))) by simp only[f0,ah,ae]]
    exact mq ev k!
 rcases Bool.eq_false_or_eq_true (bif (decide (ba=[])) then true else (decide (16<((List.length ba:Nat):Int)))) with f0 | f0
 · have e:cg ba=false:=by simp only[cg,f0,ah,ae]
   rw[e]
   exact ar rfl (aE Tryz.func54 qP rfl (.inr rfl) (pk (d) _ _ h _ h (CC<|LL Gc<|BC f0<|ZZ) k!) k!) (Has.refl _) rfl
 · have sn3:ba.length<2^60:=Bw
   cases ft:ez ba (List.length ba) 0 with
   | none=>
     obtain ⟨RL,h5,gu,gv⟩:=aD.n ft (lV (d:=d) (h:=h) ba Bw (List.length ba) 0 o! (fun k_=>(((AV.str ba)::AV.undef::(AV.bool false)::AV.undef::AV.undef::AV.undef::rx YN 6 6 ((AV.bool (bif (decide (ba=[])) then true else (decide (16<((List.length ba:Nat):Int)))))::(AV.str ba)::(Zn (List.length ba))::(Zi 0)::ck 39)):List AV).getD k_ AV.undef) h bK (Has.refl _))
     have xJ:=gv.y
     have DY:h.nx≤h5.nx:=gv.n
     have o6:Has h h5:=gv.a
     have e:cg ba=true:=by simp only[cg,f0,ft,ah,ae]
     rw[e]
     exact ar rfl (aE Tryz.func54 qP rfl (.inr rfl) (pk (d) _ _ h _ h5 (CC<|LL Gc<|BB f0<|CN 3<|LL gu<|CC<|ZZ) k!) k!) o6 rfl
   | some Gb=>
     obtain ⟨RL,h5,gu,gv⟩:=aD.r ft (lV (d:=d) (h:=h) ba Bw (List.length ba) 0 o! (fun k_=>(((AV.str ba)::AV.undef::(AV.bool false)::AV.undef::AV.undef::AV.undef::rx YN 6 6 ((AV.bool (bif (decide (ba=[])) then true else (decide (16<((List.length ba:Nat):Int)))))::(AV.str ba)::(Zn (List.length ba))::(Zi 0)::ck 39)):List AV).getD k_ AV.undef) h bK (Has.refl _))
     have xJ:=gv.y
     have DY:h.nx≤h5.nx:=gv.n
     have o6:Has h h5:=gv.a
     have e:cg ba=Gb:=by simp only[cg,f0,ft,ah,ae]
     rw[e]
     exact ar rfl (aE Tryz.func54 qP rfl (.inr rfl) (pk (d) _ _ h _ h5 (CC<|LL Gc<|BB f0<|CN 3<|LL gu<|ZZ) k!) k!) o6 rfl
end
end Go.Proofs.aA
