import Derived.Test.YtkkpegaeikljmaaGreatDoorA6
import Derived.Test.YtkkpegaeikljmaaGreatDoorW0
import Derived.Test.YtkkpegaeikljmaaGreatDoorEnv
import Derived.Test.YtkkpegaeikljmaaGreatDoorW9
import Derived.Test.YtkkpegaeikljmaaGreatDoorW1
namespace Go.Proofs.aF
open Go.Proofs Ab
set_option maxRecDepth 100000
set_option maxHeartbeats 4000000
set_option linter.unusedVariables false
set_option linter.unusedSimpArgs false
noncomputable def qY:Code:=(Tryz.f73.body).getD .skip
theorem Es:Tryz.f73.body=some qY:=by kernel_rfl
noncomputable def oS:Code:=(Tryz.f43.body).getD .skip
theorem B_:Tryz.f43.body=some oS:=by kernel_rfl
noncomputable def xC:Code:=(Tryz.f15.body).getD .skip
theorem Ps:Tryz.f15.body=some xC:=by kernel_rfl
noncomputable def qZ:Code:=(Tryz.f121.body).getD .skip
theorem Et:Tryz.f121.body=some qZ:=by kernel_rfl
noncomputable def oi:Code:=(Tryz.f74.body).getD .skip
theorem B':Tryz.f74.body=some oi:=by kernel_rfl
noncomputable def tT:Code:=(Tryz.f44.body).getD .skip
theorem Ls:Tryz.f44.body=some tT:=by kernel_rfl
noncomputable def Dw:Code:=(Tryz.f16.body).getD .skip
theorem aaM:Tryz.f16.body=some Dw:=by kernel_rfl
noncomputable def rf:Code:=(Tryz.f55.body).getD .skip
theorem Fs:Tryz.f55.body=some rf:=by kernel_rfl
theorem Pt {d:Nat} {h:ah} {s:List UInt8}:aQ (d+1) (.fn 73) [.str s,.str [45]] h= .ret (.bool (decide (s.head?=some 45))) h:=by
 by_cases q:1≤s.length
 · have q1:=dg (1≤((List.length s:Nat):Int))
   have sl2:aZ env 9 (AV.str s) (none) (some (af 1)) (none)=some (AV.str (List.take 1 s)):=tk k! o! (by first | omega | (simp;omega))
   have ev:=pk (d) qY ((AV.str s)::(AV.str [45])::aV 16) h .ret h (CN 5<|VV (bV 3 false false .i64 ((List.length s:Nat):Int) 1)<|CC<|BB q1<|CC<|BB q1<|CC<|BB q1<|CC<|BB q1<|QQ sl2<|BB q1<|CC<|BB q1<|VV (EO 9 false false (List.take 1 s) [45])<|VV (aG (a:=some (aj (decide ((List.take 1 s)=[45])))) (b:=some (aj false)) q1)<|CC<|ZZ) k!
   have e:decide (List.take 1 s=[45])=decide (s.head?=some 45):=by
    cases s with
    | nil=>simp at q
    | cons a r=>simp
   rw[←e]
   exact ai rfl (az Tryz.func73 Es k! (.inr rfl) ev k!) (Has.refl _) rfl
 · have q1:=cI (1≤((List.length s:Nat):Int))
   have ev:=pk (d) qY ((AV.str s)::(AV.str [45])::aV 16) h .ret h (CN 5<|VV (bV 3 false false .i64 ((List.length s:Nat):Int) 1)<|CC<|BB q1<|BB q1<|BB q1<|BB q1<|BB q1<|BB q1<|VV (aL (a:=some aB) (b:=some (aj false)) q1)<|CC<|ZZ) k!
   have e:decide (s.head?=some 45)=false:=by
    cases s with
    | nil=>rfl
    | cons a r=>simp at q
   rw[e]
   exact ai rfl (az Tryz.func73 Es k! (.inr rfl) ev k!) (Has.refl _) rfl
def aH (s:List UInt8):List UInt8:=if s.head?=some 45 then s.drop 1 else s
theorem Lt {d:Nat} {h:ah} {s:List UInt8}:aQ (d+2) (.fn 43) [.str s,.str [45]] h= .ret (.tuple [.str (aH s),.bool (decide (s.head?=some 45))]) h:=by
 obtain ⟨hp,hhp⟩:∃hp,hp=decide (s.head?=some 45):=⟨_,rfl⟩
 have kh:=Pt (d:=d) (h:=h) (s:=s)
 rw[←hhp] at kh ⊢
 by_cases q:s.head?=some 45
 · rw[decide_eq_true q] at hhp
   have q1:(!hp)=false:=by rw[hhp];rfl
   have hl:1≤s.length:=by
    cases s with
    | nil=>cases q
    | cons a r=>simp
   have q1:(!hp)=false:=q!
   have sl2:aZ env 9 (AV.str s) (some (af 1)) (none) (none)=some (AV.str (List.drop 1 s)):=ln k! o! (by first | omega | (simp;omega))
   have ev:=pk (d+1) oS ((AV.str s)::(AV.str [45])::aV 13) h .ret h (CN 4<|EE kh<|CC<|BB q1<|CN 3<|QQ sl2<|CN 2<|ZZ) k!
   rw[show aH s=s.drop 1 from if_pos q,hhp]
   exact ai rfl (az Tryz.func43 B_ k! (.inr rfl) ev k!) (Has.refl _) rfl
 · rw[decide_eq_false q] at hhp
   have q1:(!hp)=true:=by rw[hhp];rfl
   have q1:(!hp)=true:=q!
   have ev:=pk (d+1) oS ((AV.str s)::(AV.str [45])::aV 13) h .ret h (CN 4<|EE kh<|CC<|BB q1<|CN 3<|ZZ) k!
   rw[show aH s=s from if_neg q,hhp]
   exact ai rfl (az Tryz.func43 B_ k! (.inr rfl) ev k!) (Has.refl _) rfl
theorem Eu {d:Nat} {h:ah} {s:List UInt8}:aQ (d+3) (.fn 15) [.str s,.str [45]] h= .ret (.tuple [.str (aH s),.bool (decide (s.head?=some 45))]) h:=by
 have k:=Lt (d:=d) (h:=h) (s:=s)
 obtain ⟨q,hq⟩:∃q,q=aH s:=⟨_,rfl⟩
 obtain ⟨b,hb⟩:∃b,b=decide (s.head?=some 45):=⟨_,rfl⟩
 rw[←hq,←hb] at k ⊢
 have ev:=pk (d+2) xC ((AV.str s)::(AV.str [45])::aV 9) h .ret h (CN 4<|EE k<|CN 4<|ZZ) k!
 exact ai rfl (az Tryz.func15 Ps k! (.inr rfl) ev k!) (Has.refl _) rfl
theorem Dx (c:UInt8):∀(s:List UInt8) (i:Nat),(c ∉ s∧vF c.toNat s i= -1)∨∃a b,s=a++c::b∧c ∉ a∧vF c.toNat s i=((i+a.length:Nat):Int)
 | [],i=> .inl ⟨by simp,rfl⟩
 | x::s,i=>by
  have e:vF c.toNat (x::s) i=Fa.bc (Nat.beq x.toBitVec.toFin.val c.toNat) (Int.ofNat i) (vF c.toNat s (Nat.add i 1)):=rfl
  have ex:x.toBitVec.toFin.val=x.toNat:=rfl
  rw[ex] at e
  by_cases q:x=c
  · subst q
    refine .inr ⟨[],s,rfl,by simp,?_⟩
    rw[e,show Nat.beq x.toNat x.toNat=true from Nat.beq_refl _]
    rfl
  · have cR:Nat.beq x.toNat c.toNat=false:=by
     cases hb:Nat.beq x.toNat c.toNat with
     | false=>rfl
     | true=>exact absurd (UInt8.toNat_inj.1 (Nat.eq_of_beq_eq_true hb)) q
    rw[cR] at e
    have e':vF c.toNat (x::s) i=vF c.toNat s (i+1):=e
    rw[e']
    rcases Dx c s (i+1) with ⟨h1,h2⟩ | ⟨a,b,rfl,h1,h2⟩
    · refine .inl ⟨fun m=>?_,h2⟩
      rcases List.mem_cons.1 m with rfl | m
      · exact q rfl
      · exact h1 m
    · refine .inr ⟨x::a,b,rfl,fun m=>?_,by rw[h2];simp;omega⟩
      rcases List.mem_cons.1 m with rfl | m
      · exact q rfl
      · exact h1 m
def cutAt (c:UInt8):List UInt8→List UInt8×List UInt8×Bool
 | []=>([],[],false)
 | x::s=>if x=c then ([],s,true) else (x::(cutAt c s).1,(cutAt c s).2.1,(cutAt c s).2.2)
theorem xD {c:UInt8}:∀{s:List UInt8},c ∉ s→cutAt c s=(s,[],false)
 | [],_=>rfl
 | x::s,h=>by
  rw[cutAt,if_neg (fun e=>h (by simp [e])),xD (fun m=>h (List.mem_cons_of_mem _ m))]
theorem tU {c:UInt8} {b:List UInt8}:∀{a:List UInt8},c ∉ a→cutAt c (a++c::b)=(a,b,true)
 | [],_=>by simp [cutAt]
 | x::a,h=>by
  rw[List.cons_append,cutAt,if_neg (fun e=>h (by simp [e])),tU (fun m=>h (List.mem_cons_of_mem _ m))]
theorem Lu {d:Nat} {h:ah} {s:List UInt8}:aQ (d+1) (.fn 121) [.str s,.int .u8 47] h= .ret (.int .i64 (vF 47 s 0)) h:=by
 have e1:uF [(AV.str s),(bj 47)]=some (af (vF 47 s 0)):=by kernel_rfl
 have ev:=pk (d) qZ ((AV.str s)::(bj 47)::aV 6) h .ret h (CN 3<|QQ e1<|CC<|ZZ) k!
 exact ai rfl (az Tryz.func121 Et k! (.inr rfl) ev k!) (Has.refl _) rfl
theorem aaN {d:Nat} {h:ah} {s:List UInt8}:aQ (d+2) (.fn 74) [.str s,.str [47]] h= .ret (.int .i64 (vF 47 s 0)) h:=by
 have kI:=Lu (d:=d) (h:=h) (s:=s)
 by_cases q: [47]=s
 · have q1:(decide ([47]=s))=true:=decide_eq_true q
   have q1:=dg ([47]=s)
   have ev:=pk (d+1) oi ((AV.str s)::(AV.str [47])::aV 141) h .ret h (CN 7<|FF<|CC<|FF<|CC<|FF<|VV (EO 9 false false [47] s)<|CN 2<|BB q1<|CC<|ZZ) k!
   rw[show vF 47 s 0=0 by rw[←q];rfl]
   exact ai rfl (az Tryz.func74 B' k! (.inr rfl) ev k!) (Has.refl _) rfl
 · have q1:(decide ([47]=s))=false:=decide_eq_false q
   have q1:=cI ([47]=s)
   have ev:=pk (d+1) oi ((AV.str s)::(AV.str [47])::aV 141) h .ret h (CN 7<|FF<|CC<|FF<|CC<|FF<|VV (EO 9 false false [47] s)<|CN 2<|BB q1<|CN 3<|TT<|CN 2<|VV (show pv env (some .string) (some (AV.str [47])) (some (af 0))=some (bj 47) from k!)<|EE kI<|CC<|ZZ) k!
   exact ai rfl (az Tryz.func74 B' k! (.inr rfl) ev k!) (Has.refl _) rfl
theorem adq {d:Nat} {h:ah} {s:List UInt8} (gD:s.length<2^60):aQ (d+3) (.fn 44) [.str s,.str [47]] h= .ret (.tuple [.str (cutAt 47 s).1,.str (cutAt 47 s).2.1,.bool (cutAt 47 s).2.2]) h:=by
 have kX:=aaN (d:=d) (h:=h) (s:=s)
 rcases Dx 47 s 0 with ⟨h1,h2⟩ | ⟨a,b,hs,h1,h2⟩
 · rw[show (47:UInt8).toNat=47 from rfl] at h2
   rw[h2] at kX
   rw[xD h1]
   have ev:=pk (d+2) tT ((AV.str s)::(AV.str [47])::aV 21) h .ret h (CN 5<|EE kX<|CN 3<|FF<|CN 4<|ZZ) k!
   exact ai rfl (az Tryz.func44 Ls k! (.inr rfl) ev k!) (Has.refl _) rfl
 · rw[show (47:UInt8).toNat=47 from rfl,Nat.zero_add] at h2
   obtain ⟨i,hi⟩:∃i,i=a.length:=⟨_,rfl⟩
   rw[h2,←hi] at kX
   have Ql:i+1≤s.length:=by rw[hs,hi];simp
   have q1:=dg (0≤(i:Int))
   have sl2:aZ env 9 (AV.str s) (none) (some (ag i)) (none)=some (AV.str (List.take i s)):=tk k! o! (by first | omega | (simp;omega))
   have w3:=fS ((i:Int)+1)
   have sl4:aZ env 9 (AV.str s) (some (af ((i:Int)+1))) (none) (none)=some (AV.str (List.drop (i+1) s)):=ln k! o! (by first | omega | (simp;omega))
   have ev:=pk (d+2) tT ((AV.str s)::(AV.str [47])::aV 21) h .ret h (CN 5<|EE kX<|CN 2<|VV (bV 3 false true .i64 (i:Int) 0)<|BB q1<|CN 2<|QQ sl2<|CN 4<|VV (iI 3 false false w3)<|QQ sl4<|CN 3<|ZZ) k!
   have e1:List.take i s=a:=by rw[hs,hi];simp
   have e2:List.drop (i+1) s=b:=by rw[hs,hi,List.drop_append];simp
   rw[show cutAt 47 s=(a,b,true) by rw[hs];exact tU h1]
   rw[e1,e2] at ev
   exact ai rfl (az Tryz.func44 Ls k! (.inr rfl) ev k!) (Has.refl _) rfl
theorem aaO {d:Nat} {h:ah} {s:List UInt8} (gD:s.length<2^60):aQ (d+4) (.fn 16) [.str s,.str [47]] h= .ret (.tuple [.str (cutAt 47 s).1,.str (cutAt 47 s).2.1,.bool (cutAt 47 s).2.2]) h:=by
 have k:=adq (d:=d) (h:=h) gD
 obtain ⟨q,hq⟩:∃q,q=(cutAt 47 s).1:=⟨_,rfl⟩
 obtain ⟨r,hr⟩:∃r,r=(cutAt 47 s).2.1:=⟨_,rfl⟩
 obtain ⟨b,hb⟩:∃b,b=(cutAt 47 s).2.2:=⟨_,rfl⟩
 rw[←hq,←hr,←hb] at k ⊢
 have ev:=pk (d+3) Dw ((AV.str s)::(AV.str [47])::aV 11) h .ret h (CN 5<|EE k<|CN 6<|ZZ) k!
 exact ai rfl (az Tryz.func16 aaM k! (.inr rfl) ev k!) (Has.refl _) rfl
theorem Lv {d:Nat} {h:ah} {s:List UInt8}:aQ (d+1) (.fn 121) [.str s,.int .u8 46] h= .ret (.int .i64 (vF 46 s 0)) h:=by
 have e1:uF [(AV.str s),(bj 46)]=some (af (vF 46 s 0)):=by kernel_rfl
 have ev:=pk (d) qZ ((AV.str s)::(bj 46)::aV 6) h .ret h (CN 3<|QQ e1<|CC<|ZZ) k!
 exact ai rfl (az Tryz.func121 Et k! (.inr rfl) ev k!) (Has.refl _) rfl
theorem aaP {d:Nat} {h:ah} {s:List UInt8}:aQ (d+2) (.fn 74) [.str s,.str [46]] h= .ret (.int .i64 (vF 46 s 0)) h:=by
 have kI:=Lv (d:=d) (h:=h) (s:=s)
 by_cases q: [46]=s
 · have q1:(decide ([46]=s))=true:=decide_eq_true q
   have q1:=dg ([46]=s)
   have ev:=pk (d+1) oi ((AV.str s)::(AV.str [46])::aV 141) h .ret h (CN 7<|FF<|CC<|FF<|CC<|FF<|VV (EO 9 false false [46] s)<|CN 2<|BB q1<|CC<|ZZ) k!
   rw[show vF 46 s 0=0 by rw[←q];rfl]
   exact ai rfl (az Tryz.func74 B' k! (.inr rfl) ev k!) (Has.refl _) rfl
 · have q1:(decide ([46]=s))=false:=decide_eq_false q
   have q1:=cI ([46]=s)
   have ev:=pk (d+1) oi ((AV.str s)::(AV.str [46])::aV 141) h .ret h (CN 7<|FF<|CC<|FF<|CC<|FF<|VV (EO 9 false false [46] s)<|CN 2<|BB q1<|CN 3<|TT<|CN 2<|VV (show pv env (some .string) (some (AV.str [46])) (some (af 0))=some (bj 46) from k!)<|EE kI<|CC<|ZZ) k!
   exact ai rfl (az Tryz.func74 B' k! (.inr rfl) ev k!) (Has.refl _) rfl
theorem adr {d:Nat} {h:ah} {s:List UInt8} (gD:s.length<2^60):aQ (d+3) (.fn 44) [.str s,.str [46]] h= .ret (.tuple [.str (cutAt 46 s).1,.str (cutAt 46 s).2.1,.bool (cutAt 46 s).2.2]) h:=by
 have kX:=aaP (d:=d) (h:=h) (s:=s)
 rcases Dx 46 s 0 with ⟨h1,h2⟩ | ⟨a,b,hs,h1,h2⟩
 · rw[show (46:UInt8).toNat=46 from rfl] at h2
   rw[h2] at kX
   rw[xD h1]
   have ev:=pk (d+2) tT ((AV.str s)::(AV.str [46])::aV 21) h .ret h (CN 5<|EE kX<|CN 3<|FF<|CN 4<|ZZ) k!
   exact ai rfl (az Tryz.func44 Ls k! (.inr rfl) ev k!) (Has.refl _) rfl
 · rw[show (46:UInt8).toNat=46 from rfl,Nat.zero_add] at h2
   obtain ⟨i,hi⟩:∃i,i=a.length:=⟨_,rfl⟩
   rw[h2,←hi] at kX
   have Ql:i+1≤s.length:=by rw[hs,hi];simp
   have q1:=dg (0≤(i:Int))
   have sl2:aZ env 9 (AV.str s) (none) (some (ag i)) (none)=some (AV.str (List.take i s)):=tk k! o! (by first | omega | (simp;omega))
   have w3:=fS ((i:Int)+1)
   have sl4:aZ env 9 (AV.str s) (some (af ((i:Int)+1))) (none) (none)=some (AV.str (List.drop (i+1) s)):=ln k! o! (by first | omega | (simp;omega))
   have ev:=pk (d+2) tT ((AV.str s)::(AV.str [46])::aV 21) h .ret h (CN 5<|EE kX<|CN 2<|VV (bV 3 false true .i64 (i:Int) 0)<|BB q1<|CN 2<|QQ sl2<|CN 4<|VV (iI 3 false false w3)<|QQ sl4<|CN 3<|ZZ) k!
   have e1:List.take i s=a:=by rw[hs,hi];simp
   have e2:List.drop (i+1) s=b:=by rw[hs,hi,List.drop_append];simp
   rw[show cutAt 46 s=(a,b,true) by rw[hs];exact tU h1]
   rw[e1,e2] at ev
   exact ai rfl (az Tryz.func44 Ls k! (.inr rfl) ev k!) (Has.refl _) rfl
theorem agK {d:Nat} {h:ah} {s:List UInt8} (gD:s.length<2^60):aQ (d+4) (.fn 16) [.str s,.str [46]] h= .ret (.tuple [.str (cutAt 46 s).1,.str (cutAt 46 s).2.1,.bool (cutAt 46 s).2.2]) h:=by
 have k:=adr (d:=d) (h:=h) gD
 obtain ⟨q,hq⟩:∃q,q=(cutAt 46 s).1:=⟨_,rfl⟩
 obtain ⟨r,hr⟩:∃r,r=(cutAt 46 s).2.1:=⟨_,rfl⟩
 obtain ⟨b,hb⟩:∃b,b=(cutAt 46 s).2.2:=⟨_,rfl⟩
 rw[←hq,←hr,←hb] at k ⊢
 have ev:=pk (d+3) Dw ((AV.str s)::(AV.str [46])::aV 11) h .ret h (CN 5<|EE k<|CN 6<|ZZ) k!
 exact ai rfl (az Tryz.func16 aaM k! (.inr rfl) ev k!) (Has.refl _) rfl
def iF (s:List UInt8):Bool:=((s.map UInt8.toNat).all oc&& !decide (s=[]))&&decide (s.length≤50000)&&(decide (s.head?≠some 48)||decide (s.length=1))
theorem Lw {d:Nat} {h:ah} {s:List UInt8} (hs:s.length<2^60) (aw:Tidy h):aQ (d+2) (.fn 55) [.str s] h= .ret (.bool (iF s)) h:=by
 have kO:=mD (d:=d) (h:=h) s hs aw (Nat.zero_le _)
 obtain ⟨od,hod⟩:∃od,od=((s.map UInt8.toNat).all oc&& !decide (s=[])):=⟨_,rfl⟩
 unfold iF
 rw[←hod] at kO ⊢
 rcases Bool.eq_false_or_eq_true od with e1 | e1
 · by_cases hl:s.length≤50000
   · have cR:s≠ []:=fun e=>by rw[e1,e] at hod;simp at hod
     obtain ⟨c0,kc,hx⟩:∃c0:Nat,pv env (some .string) (some (.str s)) (some (.int .i64 0))=some (.int .u8 ((c0:Nat):Int))∧(s.head?=some 48↔c0=48):=by
      cases s with
      | nil=>exact absurd rfl cR
      | cons x r=>
       refine ⟨x.toNat,rfl,?_⟩
       simp only[List.head?_cons,Option.some.injEq]
       exact ⟨fun e=>by rw[e];rfl,fun e=>UInt8.toNat_inj.1 e⟩
     · rw[decide_eq_true hl,e1,Bool.true_and,Bool.true_and]
       by_cases q:c0=48
       · rw[decide_eq_false (fun e=>e (hx.2 q)),Bool.false_or]
         have e2:decide (s.length=1)=decide (((List.length s:Nat):Int)=1):=by
          by_cases w:s.length=1
          · rw[decide_eq_true w,decide_eq_true o!]
          · rw[decide_eq_false w,decide_eq_false o!]
         rw[e2]
         have q1:od=true:=q!
         have q2:=dg (((List.length s:Nat):Int)≤50000)
         have q3:=TJ ((c0:Int)=48)
         have ev:=pk (d+1) rf ((AV.str s)::aV 19) h .ret h (CN 2<|EE kO<|CC<|BB q1<|CC<|BB q1<|CC<|BB q1<|VV (yV 3 false true .i64 ((List.length s:Nat):Int) 50000)<|VV (aG (a:=some (aj (decide (((List.length s:Nat):Int)≤50000)))) (b:=some (aj false)) q1)<|CC<|BB q2<|CC<|BB q2<|VV kc<|BB q2<|VV (jb 5 false true .u8 (c0:Int) 48)<|BB q2<|CC<|BB q3<|CC<|BB q3<|CC<|BB q3<|VV (bQ 3 false true .i64 ((List.length s:Nat):Int) 1)<|BB q2<|VV (aL (a:=some (aj true)) (b:=some (aj (decide (((List.length s:Nat):Int)=1)))) q3)<|VV (aG (a:=some (aj (decide (((List.length s:Nat):Int)=1)))) (b:=some (aj false)) q2)<|CC<|ZZ) k!
         exact ai rfl (az Tryz.func55 Fs k! (.inr rfl) ev k!) (Has.refl _) rfl
       · rw[decide_eq_true (show s.head?≠some 48 from fun e=>q (hx.1 e)),Bool.true_or]
         have q1:od=true:=q!
         have q2:=dg (((List.length s:Nat):Int)≤50000)
         have q3:=W0 ((c0:Int)=48)
         have ev:=pk (d+1) rf ((AV.str s)::aV 19) h .ret h (CN 2<|EE kO<|CC<|BB q1<|CC<|BB q1<|CC<|BB q1<|VV (yV 3 false true .i64 ((List.length s:Nat):Int) 50000)<|VV (aG (a:=some (aj (decide (((List.length s:Nat):Int)≤50000)))) (b:=some (aj false)) q1)<|CC<|BB q2<|CC<|BB q2<|VV kc<|BB q2<|VV (jb 5 false true .u8 (c0:Int) 48)<|BB q2<|CC<|BB q3<|BB q3<|BB q3<|BB q2<|VV (aG (a:=some (aj true)) (b:=some aB) q3)<|VV (aG (a:=some (aj true)) (b:=some (aj false)) q2)<|CC<|ZZ) k!
         exact ai rfl (az Tryz.func55 Fs k! (.inr rfl) ev k!) (Has.refl _) rfl
   · rw[decide_eq_false hl,Bool.and_false,Bool.false_and]
     have q1:od=true:=q!
     have q2:=cI (((List.length s:Nat):Int)≤50000)
     have ev:=pk (d+1) rf ((AV.str s)::aV 19) h .ret h (CN 2<|EE kO<|CC<|BB q1<|CC<|BB q1<|CC<|BB q1<|VV (yV 3 false true .i64 ((List.length s:Nat):Int) 50000)<|VV (aG (a:=some (aj (decide (((List.length s:Nat):Int)≤50000)))) (b:=some (aj false)) q1)<|CC<|BB q2<|BB q2<|BB q2<|BB q2<|BB q2<|VV (aL (a:=some aB) (b:=some (aj false)) q2)<|CC<|ZZ) k!
     exact ai rfl (az Tryz.func55 Fs k! (.inr rfl) ev k!) (Has.refl _) rfl
 · rw[e1,Bool.false_and,Bool.false_and]
   have q1:od=false:=q!
   have ev:=pk (d+1) rf ((AV.str s)::aV 19) h .ret h (CN 2<|EE kO<|CC<|BB q1<|BB q1<|BB q1<|VV (aL (a:=some aB) (b:=some (aj false)) q1)<|CC<|FF<|FF<|FF<|FF<|FF<|CN 2<|ZZ) k!
   exact ai rfl (az Tryz.func55 Fs k! (.inr rfl) ev k!) (Has.refl _) rfl
noncomputable def pL:Code:=(Tryz.f26.body).getD .skip
theorem JL:Tryz.f26.body=some pL:=by kernel_rfl
noncomputable def l_:Code:=(aY pL).getD 0 .skip
noncomputable def yG:Code:=(Tryz.f25.body).getD .skip
theorem aaQ:Tryz.f25.body=some yG:=by kernel_rfl
noncomputable def tV:Code:=(aY yG).getD 0 .skip
theorem u0 {s:List UInt8} {j:Nat} (hj:j<s.length):pv env (some .string) (some (.str s)) (some (.int .i64 ((j:Nat):Int)))=some (.int .u8 (((s[j]).toNat:Nat):Int)):=by
 simp only[pv]
 rw[if_pos o!,Int.toNat_natCast,List.getElem?_eq_getElem hj]
theorem u_ {d:Nat} {h:ah} {s:List UInt8} (hs:s.length<2^60):∀(k j:Nat),j+k=s.length→∀x:Nat→AV,
 ((((s.drop j).map UInt8.toNat).all oc=true)→∃y:Nat→AV,Ev env (aQ d) (.loop l_) ⟨((AV.str s)::(x 1)::(aj false)::(ag j)::rx x 4 18 []),h,[],.no⟩ (.exit 0) ⟨((AV.str s)::(y 1)::(aj false)::rx y 3 19 []),h,[],.no⟩)∧
 ((((s.drop j).map UInt8.toNat).all oc=false)→∃y:Nat→AV,Ev env (aQ d) (.loop l_) ⟨((AV.str s)::(x 1)::(aj false)::(ag j)::rx x 4 18 []),h,[],.no⟩ .ret ⟨((AV.str s)::(y 1)::(aj false)::rx y 3 19 []),h,[],.no⟩)
 | 0,j,hj,x=>by
  refine ⟨fun _=>?_,fun e=>?_⟩
  · have q1:=cI ((j:Int)<((List.length s:Nat):Int))
    have ev:=pk (d) l_ ((AV.str s)::(x 1)::(aj false)::(ag j)::rx x 4 18 []) h (.exit 0) h (CN 3<|VV (bh 3 false false .i64 (j:Int) ((List.length s:Nat):Int))<|BB q1<|ZZ) k!
    exact cT (Ev.out ev) k!
  · rw[List.drop_of_length_le o!] at e
    cases e
 | k+1,j,hj,x=>by
  have EJ:j<s.length:=by omega
  have kc:=u0 EJ
  obtain ⟨c,hc⟩:∃c,c=(s[j]).toNat:=⟨_,rfl⟩
  rw[←hc] at kc
  have ed:((s.drop j).map UInt8.toNat).all oc=(oc c&&((s.drop (j+1)).map UInt8.toNat).all oc):=by
   rw[List.drop_eq_getElem_cons EJ,List.map_cons,List.all_cons,hc]
  rw[ed]
  by_cases q1:c<48
  · have e0:oc c=false:=by simp [oc];omega
    rw[e0,Bool.false_and]
    refine ⟨(fun e=>by cases e),fun _=>?_⟩
    have q1:=dg ((j:Int)<((List.length s:Nat):Int))
    have q2:=dg ((c:Int)<48)
    have ev:=pk (d) l_ ((AV.str s)::(x 1)::(aj false)::(ag j)::rx x 4 18 []) h .ret h (CN 3<|VV (bh 3 false false .i64 (j:Int) ((List.length s:Nat):Int))<|BB q1<|CN 2<|VV kc<|VV (bh 5 false true .u8 (c:Int) 48)<|CC<|BB q2<|BB q2<|BB q2<|BB q2<|VV (aG (a:=some (aj true)) (b:=some aB) q2)<|TT<|CC<|ZZ) k!
    exact cT (Ev.ret ev) k!
  · by_cases q2:57<c
    · have e0:oc c=false:=by simp [oc];omega
      rw[e0,Bool.false_and]
      refine ⟨(fun e=>by cases e),fun _=>?_⟩
      have q1:=dg ((j:Int)<((List.length s:Nat):Int))
      have q2:=cI ((c:Int)<48)
      have q3:=dg (57<(c:Int))
      have ev:=pk (d) l_ ((AV.str s)::(x 1)::(aj false)::(ag j)::rx x 4 18 []) h .ret h (CN 3<|VV (bh 3 false false .i64 (j:Int) ((List.length s:Nat):Int))<|BB q1<|CN 2<|VV kc<|VV (bh 5 false true .u8 (c:Int) 48)<|CC<|BB q2<|CC<|BB q2<|CC<|BB q2<|VV kc<|BB q2<|VV (bM 5 false true .u8 (c:Int) 57)<|VV (aL (a:=some (aj true)) (b:=some (aj (decide (57<(c:Int))))) q2)<|BB q3<|CC<|ZZ) k!
      exact cT (Ev.ret ev) k!
    · have e0:oc c=true:=by simp [oc];omega
      rw[e0,Bool.true_and]
      have q1:=dg ((j:Int)<((List.length s:Nat):Int))
      have q2:=cI ((c:Int)<48)
      have q3:=cI (57<(c:Int))
      have w4:=fS ((j:Int)+1)
      have ev:=pk (d) l_ ((AV.str s)::(x 1)::(aj false)::(ag j)::rx x 4 18 []) h .normal h (CN 3<|VV (bh 3 false false .i64 (j:Int) ((List.length s:Nat):Int))<|BB q1<|CN 2<|VV kc<|VV (bh 5 false true .u8 (c:Int) 48)<|CC<|BB q2<|CC<|BB q2<|CC<|BB q2<|VV kc<|BB q2<|VV (bM 5 false true .u8 (c:Int) 57)<|VV (aL (a:=some (aj true)) (b:=some (aj (decide (57<(c:Int))))) q2)<|BB q3<|CC<|VV (iI 3 false true w4)<|CC<|ZZ) k!
      refine ⟨fun e=>bO ev k! fun x=>(u_ hs k (j+1) o! x).1 e,fun e=>bO ev k! fun x=>(u_ hs k (j+1) o! x).2 e⟩
theorem jg {d:Nat} {h:ah} {s:List UInt8} (hs:s.length<2^60):aQ (d+1) (.fn 26) [.str s] h= .ret (.bool ((s.map UInt8.toNat).all oc&& !decide (s=[]))) h:=by
 obtain ⟨l1,l2⟩:=u_ (d:=d) (h:=h) hs s.length 0 o! (fun k=>(((AV.str s)::aB::(aj false)::(af 0)::aV 18):List AV).getD k aB)
 rw[List.drop_zero] at l1 l2
 cases e:(s.map UInt8.toNat).all oc with
 | true=>
  obtain ⟨yl,cf⟩:=l1 e
  have ev:=pk (d) pL ((AV.str s)::aV 21) h .ret h (CN 2<|LL cf<|CC<|VV (VF 9 false true s [])<|CC<|ZZ) k!
  rw[Bool.true_and]
  exact ai rfl (az Tryz.func26 JL k! (.inr rfl) ev k!) (Has.refl _) rfl
 | false=>
  obtain ⟨yl,cf⟩:=l2 e
  have ev:=pk (d) pL ((AV.str s)::aV 21) h .ret h (CN 2<|LL cf<|ZZ) k!
  rw[Bool.false_and]
  exact ai rfl (az Tryz.func26 JL k! (.inr rfl) ev k!) (Has.refl _) rfl
theorem Uv {d:Nat} {h:ah} {s:List UInt8} {c:Nat} (hs:s.length<2^60) (hc:∀x∈s,x.toNat≠c):∀(k j:Nat),j+k=s.length→∀x:Nat→AV,
 ∃y:Nat→AV,Ev env (aQ d) (.loop tV) ⟨((AV.str s)::(EP c)::(x 2)::(x 3)::(AV.str [])::(AV.str [])::(aj false)::(ag j)::rx x 8 19 []),h,[],.no⟩ (.exit 0) ⟨((AV.str s)::(EP c)::(y 2)::(y 3)::(AV.str [])::(AV.str [])::(aj false)::rx y 7 20 []),h,[],.no⟩
 | 0,j,hj,x=>by
  have q1:=cI ((j:Int)<((List.length s:Nat):Int))
  have ev:=pk (d) tV ((AV.str s)::(EP c)::(x 2)::(x 3)::(AV.str [])::(AV.str [])::(aj false)::(ag j)::rx x 8 19 []) h (.exit 0) h (CN 3<|VV (bh 3 false false .i64 (j:Int) ((List.length s:Nat):Int))<|BB q1<|ZZ) k!
  exact cT (Ev.out ev) k!
 | k+1,j,hj,x=>by
  have EJ:j<s.length:=by omega
  have kc:=u0 EJ
  have cR:=hc _ (List.getElem_mem EJ)
  obtain ⟨x0,hx0⟩:∃x0,x0=(s[j]).toNat:=⟨_,rfl⟩
  rw[←hx0] at kc cR
  have q1:=dg ((j:Int)<((List.length s:Nat):Int))
  have q2:=cI ((x0:Int)=(c:Int))
  have w3:=fS ((j:Int)+1)
  have ev:=pk (d) tV ((AV.str s)::(EP c)::(x 2)::(x 3)::(AV.str [])::(AV.str [])::(aj false)::(ag j)::rx x 8 19 []) h .normal h (CN 3<|VV (bh 3 false false .i64 (j:Int) ((List.length s:Nat):Int))<|BB q1<|CN 2<|VV kc<|CC<|VV (bQ 5 false false .u8 (x0:Int) (c:Int))<|BB q2<|CC<|VV (iI 3 false true w3)<|CC<|ZZ) k!
  exact bO ev k! fun x=>Uv hs hc k (j+1) o! x
theorem Pu {d:Nat} {h:ah} {s:List UInt8} {c n:Nat} (hs:s.length<2^60) (hn:n<s.length) (L':(s[n]).toNat=c) (hc:∀i (hi:i<s.length),i<n→(s[i]).toNat≠c):∀(k j:Nat),j+k=n→∀x:Nat→AV,
 ∃y:Nat→AV,Ev env (aQ d) (.loop tV) ⟨((AV.str s)::(EP c)::(x 2)::(x 3)::(AV.str [])::(AV.str [])::(aj false)::(ag j)::rx x 8 19 []),h,[],.no⟩ .ret ⟨((AV.str s)::(EP c)::(y 2)::(y 3)::(AV.str (List.take n s))::(AV.str (List.drop (n+1) s))::(aj true)::rx y 7 20 []),h,[],.no⟩
 | 0,j,hj,x=>by
  obtain rfl:j=n:=by omega
  have kc:=u0 hn
  obtain ⟨x0,hx0⟩:∃x0,x0=(s[j]).toNat:=⟨_,rfl⟩
  rw[←hx0] at kc L'
  have q1:=dg ((j:Int)<((List.length s:Nat):Int))
  have q2:=dg ((x0:Int)=(c:Int))
  have sl3:aZ env 9 (AV.str s) (none) (some (ag j)) (none)=some (AV.str (List.take j s)):=tk k! o! (by first | omega | (simp;omega))
  have w4:=fS ((j:Int)+1)
  have V8:aZ env 9 (AV.str s) (some (af ((j:Int)+1))) (none) (none)=some (AV.str (List.drop (j+1) s)):=ln k! o! (by first | omega | (simp;omega))
  have ev:=pk (d) tV ((AV.str s)::(EP c)::(x 2)::(x 3)::(AV.str [])::(AV.str [])::(aj false)::(ag j)::rx x 8 19 []) h .ret h (CN 3<|VV (bh 3 false false .i64 (j:Int) ((List.length s:Nat):Int))<|BB q1<|CN 2<|VV kc<|CC<|VV (bQ 5 false false .u8 (x0:Int) (c:Int))<|BB q2<|CN 2<|QQ sl3<|CN 2<|VV (iI 3 false true w4)<|QQ V8<|CN 3<|ZZ) k!
  exact cT (Ev.ret ev) k!
 | k+1,j,hj,x=>by
  have EJ:j<s.length:=by omega
  have kc:=u0 EJ
  have cR:=hc j EJ o!
  obtain ⟨x0,hx0⟩:∃x0,x0=(s[j]).toNat:=⟨_,rfl⟩
  rw[←hx0] at kc cR
  have q1:=dg ((j:Int)<((List.length s:Nat):Int))
  have q2:=cI ((x0:Int)=(c:Int))
  have w3:=fS ((j:Int)+1)
  have ev:=pk (d) tV ((AV.str s)::(EP c)::(x 2)::(x 3)::(AV.str [])::(AV.str [])::(aj false)::(ag j)::rx x 8 19 []) h .normal h (CN 3<|VV (bh 3 false false .i64 (j:Int) ((List.length s:Nat):Int))<|BB q1<|CN 2<|VV kc<|CC<|VV (bQ 5 false false .u8 (x0:Int) (c:Int))<|BB q2<|CC<|VV (iI 3 false true w3)<|CC<|ZZ) k!
  exact bO ev k! fun x=>Pu hs hn L' hc k (j+1) o! x
theorem JM (c:UInt8):∀(s:List UInt8),c ∉ s∨∃a b,s=a++c::b∧c ∉ a
 | []=> .inl (by simp)
 | x::s=>by
  by_cases q:x=c
  · exact .inr ⟨[],s,by rw[q];rfl,by simp⟩
  · rcases JM c s with h | ⟨a,b,rfl,h⟩
    · exact .inl fun m=>(List.mem_cons.1 m).elim (fun e=>q e.symm) h
    · exact .inr ⟨x::a,b,rfl,fun m=>(List.mem_cons.1 m).elim (fun e=>q e.symm) h⟩
theorem aaR {d:Nat} {h:ah} {s:List UInt8} {b:UInt8} (hs:s.length<2^60):aQ (d+1) (.fn 25) [.str s,.int .u8 ((b.toNat:Nat):Int)] h= .ret (.tuple [.str (cutAt b s).1,.str (cutAt b s).2.1,.bool (cutAt b s).2.2]) h:=by
 obtain ⟨c,hcb⟩:∃c,c=b.toNat:=⟨_,rfl⟩
 rw[←hcb]
 rcases JM b s with DK | ⟨a,r,rfl,DK⟩
 · rw[xD DK]
   obtain ⟨yl,cf⟩:=Uv (d:=d) (h:=h) (c:=c) hs (fun x hx e=>DK (by rw[show b=x from UInt8.toNat_inj.1 o!];exact hx)) s.length 0 o! (fun k=>(((AV.str s)::(EP c)::aB::aB::(AV.str [])::(AV.str [])::(aj false)::(af 0)::aV 19):List AV).getD k aB)
   have ev:=pk (d) yG ((AV.str s)::(EP c)::aV 25) h .ret h (CN 4<|LL cf<|CN 4<|ZZ) k!
   exact ai rfl (az Tryz.func25 aaQ k! (.inr rfl) ev k!) (Has.refl _) rfl
 · obtain ⟨s,hse⟩:∃s,s=a++b::r:=⟨_,rfl⟩
   obtain ⟨n,hn⟩:∃n,n=a.length:=⟨_,rfl⟩
   rw[tU DK]
   have e1:List.take n s=a:=by rw[hse,hn];simp
   have e2:List.drop (n+1) s=r:=by rw[hse,hn,List.drop_append];simp
   have hl:n<s.length:=by rw[hse,hn];simp
   rw[←hse] at hs ⊢
   obtain ⟨yl,cf⟩:=Pu (d:=d) (h:=h) (c:=c) (n:=n) hs hl (by subst hn;simp [hse,hcb]) (fun i hi hin e=>DK (by
    have:s[i]=a[i]'o! :=by simp only[hse];rw[List.getElem_append_left o!]
    rw[this] at e
    rw[show b=a[i]'o! from UInt8.toNat_inj.1 o!]
    exact List.getElem_mem _)) n 0 o! (fun k=>(((AV.str s)::(EP c)::aB::aB::(AV.str [])::(AV.str [])::(aj false)::(af 0)::aV 19):List AV).getD k aB)
   have ev:=pk (d) yG ((AV.str s)::(EP c)::aV 25) h .ret h (CN 4<|LL cf<|ZZ) k!
   rw[e1,e2] at ev
   exact ai rfl (az Tryz.func25 aaQ k! (.inr rfl) ev k!) (Has.refl _) rfl
noncomputable def mc:Code:=(Tryz.f90.body).getD .skip
theorem Ca:Tryz.f90.body=some mc:=by kernel_rfl
noncomputable def nL:Code:=(aY mc).getD 0 .skip
def zw (l m:List Nat):Nat→Int
 | 0=>0
 | k+1=>if l.getD k 0=m.getD k 0 then zw l m k else if l.getD k 0<m.getD k 0 then -1 else 1
theorem su {d:Nat} {h:ah} {a b:AV} {l m:List Nat} (ha:ao env h .i64 3 a l) (hb:ao env h .i64 3 b m) (gD:l.length<2^60) (hlm:l.length=m.length):∀(k:Nat) (v:Int),v=(k:Nat) - 1→k≤l.length→∀x:Nat→AV,
 (zw l m k=0→∃y:Nat→AV,Ev env (aQ d) (.loop nL) ⟨(a::b::(x 2)::(x 3)::(af 0)::(af v)::rx x 6 35 []),h,[],.no⟩ (.exit 0) ⟨(a::b::(y 2)::(y 3)::(af 0)::rx y 5 36 []),h,[],.no⟩)∧
 (zw l m k≠0→∃y:Nat→AV,Ev env (aQ d) (.loop nL) ⟨(a::b::(x 2)::(x 3)::(af 0)::(af v)::rx x 6 35 []),h,[],.no⟩ .ret ⟨(a::b::(y 2)::(y 3)::(af (zw l m k))::rx y 5 36 []),h,[],.no⟩)
 | 0,v,hv,hk,x=>by
  refine ⟨fun _=>?_,fun e=>absurd rfl e⟩
  have q1:=cI (0≤v)
  have ev:=pk (d) nL (a::b::(x 2)::(x 3)::(af 0)::(af v)::rx x 6 35 []) h (.exit 0) h (CC<|VV (bV 3 false true .i64 v 0)<|BB q1<|ZZ) k!
  exact cT (Ev.out ev) k!
 | k+1,v,hv,hk,x=>by
  have Q3:k<l.length:=by omega
  have hkm:k<m.length:=by omega
  obtain ⟨i,j⟩:=su (d:=d) ha hb gD hlm k (v - 1) o! o! x
  by_cases q:l.getD k 0=m.getD k 0
  · rw[show zw l m (k+1)=zw l m k from if_pos q]
    have q1:=dg (0≤v)
    obtain ⟨p2,q3,yX,vp⟩:=ha.j8 v (show k<l.length by omega)
    obtain ⟨p6,q7,ix8,ld9⟩:=hb.j8 v (show k<m.length by omega)
    have Dj:=TJ (((l.getD k 0:Nat):Int)=((m.getD k 0:Nat):Int))
    have Zl:=fS (v - 1)
    have ev:=pk (d) nL (a::b::(x 2)::(x 3)::(af 0)::(af v)::rx x 6 35 []) h .normal h (CC<|VV (bV 3 false true .i64 v 0)<|BB q1<|CN 2<|VV yX<|MM vp<|CN 2<|VV ix8<|MM ld9<|VV (jb 3 false false .i64 ((l.getD k 0:Nat):Int) ((m.getD k 0:Nat):Int))<|HH vp<|HH (show AV.same 20 (ag (l.getD k 0)) (ag (l.getD k 0))=true from aP 19 _ _)<|HH ld9<|HH (show AV.same 20 (ag (m.getD k 0)) (ag (m.getD k 0))=true from aP 19 _ _)<|BB Dj<|CC<|VV (bT 3 false true Zl)<|CC<|ZZ) k!
    exact ⟨fun e=>bO ev k! fun x=>(su (d:=d) ha hb gD hlm k (v - 1) o! o! x).1 e,fun e=>bO ev k! fun x=>(su (d:=d) ha hb gD hlm k (v - 1) o! o! x).2 e⟩
  · by_cases q2:l.getD k 0<m.getD k 0
    · rw[show zw l m (k+1)= -1 by rw[zw,if_neg q,if_pos q2]]
      refine ⟨(fun e=>by cases e),fun _=>?_⟩
      have q1:=dg (0≤v)
      obtain ⟨p2,q3,yX,vp⟩:=ha.j8 v (show k<l.length by omega)
      obtain ⟨p6,q7,ix8,ld9⟩:=hb.j8 v (show k<m.length by omega)
      have Dj:=W0 (((l.getD k 0:Nat):Int)=((m.getD k 0:Nat):Int))
      obtain ⟨Ff,VZ,Ho,aaS⟩:=ha.j8 v (show k<l.length by omega)
      obtain ⟨p15,q16,He,vK⟩:=hb.j8 v (show k<m.length by omega)
      have Lx:=dg (((l.getD k 0:Nat):Int)<((m.getD k 0:Nat):Int))
      have ev:=pk (d) nL (a::b::(x 2)::(x 3)::(af 0)::(af v)::rx x 6 35 []) h .ret h (CC<|VV (bV 3 false true .i64 v 0)<|BB q1<|CN 2<|VV yX<|MM vp<|CN 2<|VV ix8<|MM ld9<|VV (jb 3 false false .i64 ((l.getD k 0:Nat):Int) ((m.getD k 0:Nat):Int))<|HH vp<|HH (show AV.same 20 (ag (l.getD k 0)) (ag (l.getD k 0))=true from aP 19 _ _)<|HH ld9<|HH (show AV.same 20 (ag (m.getD k 0)) (ag (m.getD k 0))=true from aP 19 _ _)<|BB Dj<|CN 2<|VV Ho<|MM aaS<|CN 2<|VV He<|MM vK<|VV (bh 3 false false .i64 ((l.getD k 0:Nat):Int) ((m.getD k 0:Nat):Int))<|HH aaS<|HH (show AV.same 20 (ag (l.getD k 0)) (ag (l.getD k 0))=true from aP 19 _ _)<|HH vK<|HH (show AV.same 20 (ag (m.getD k 0)) (ag (m.getD k 0))=true from aP 19 _ _)<|BB Lx<|CC<|ZZ) k!
      exact cT (Ev.ret ev) k!
    · rw[show zw l m (k+1)=1 by rw[zw,if_neg q,if_neg q2]]
      refine ⟨(fun e=>by cases e),fun _=>?_⟩
      have q1:=dg (0≤v)
      obtain ⟨p2,q3,yX,vp⟩:=ha.j8 v (show k<l.length by omega)
      obtain ⟨p6,q7,ix8,ld9⟩:=hb.j8 v (show k<m.length by omega)
      have Dj:=W0 (((l.getD k 0:Nat):Int)=((m.getD k 0:Nat):Int))
      obtain ⟨Ff,VZ,Ho,aaS⟩:=ha.j8 v (show k<l.length by omega)
      obtain ⟨p15,q16,He,vK⟩:=hb.j8 v (show k<m.length by omega)
      have Lx:=cI (((l.getD k 0:Nat):Int)<((m.getD k 0:Nat):Int))
      have ev:=pk (d) nL (a::b::(x 2)::(x 3)::(af 0)::(af v)::rx x 6 35 []) h .ret h (CC<|VV (bV 3 false true .i64 v 0)<|BB q1<|CN 2<|VV yX<|MM vp<|CN 2<|VV ix8<|MM ld9<|VV (jb 3 false false .i64 ((l.getD k 0:Nat):Int) ((m.getD k 0:Nat):Int))<|HH vp<|HH (show AV.same 20 (ag (l.getD k 0)) (ag (l.getD k 0))=true from aP 19 _ _)<|HH ld9<|HH (show AV.same 20 (ag (m.getD k 0)) (ag (m.getD k 0))=true from aP 19 _ _)<|BB Dj<|CN 2<|VV Ho<|MM aaS<|CN 2<|VV He<|MM vK<|VV (bh 3 false false .i64 ((l.getD k 0:Nat):Int) ((m.getD k 0:Nat):Int))<|HH aaS<|HH (show AV.same 20 (ag (l.getD k 0)) (ag (l.getD k 0))=true from aP 19 _ _)<|HH vK<|HH (show AV.same 20 (ag (m.getD k 0)) (ag (m.getD k 0))=true from aP 19 _ _)<|BB Lx<|CC<|ZZ) k!
      exact cT (Ev.ret ev) k!
def iL (l m:List Nat):Int:=if l.length=m.length then zw l m l.length else if l.length<m.length then -1 else 1
theorem om {d:Nat} {h:ah} {a b:AV} {l m:List Nat} (ha:ao env h .i64 3 a l) (hb:ao env h .i64 3 b m) (gD:l.length<2^60):aQ (d+1) (.fn 90) [a,b] h= .ret (.int .i64 (iL l m)) h:=by
 by_cases q:l.length=m.length
 · obtain ⟨l0,l1⟩:=su (d:=d) ha hb gD q l.length (((l.length:Nat):Int) - 1) rfl (Nat.le_refl _) (fun k=>((a::b::aB::aB::(af 0)::(af (((l.length:Nat):Int) - 1))::a::(ag l.length)::b::(ag m.length)::(aj (!decide (((l.length:Nat):Int)=((m.length:Nat):Int))))::aB::aB::aB::aB::aB::a::(ag l.length)::(af (((l.length:Nat):Int) - 1))::aV 22):List AV).getD k aB)
   rw[show iL l m=zw l m l.length from if_pos q]
   by_cases e:zw l m l.length=0
   · obtain ⟨yl,cf⟩:=l0 e
     have q1:=TJ (((l.length:Nat):Int)=((m.length:Nat):Int))
     have w2:=fS (((l.length:Nat):Int) - 1)
     have ev:=pk (d) mc (a::b::aV 39) h .ret h (CN 2<|VV (ha).len<|CC<|VV (hb).len<|VV (jb 3 false false .i64 ((l.length:Nat):Int) ((m.length:Nat):Int))<|BB q1<|CC<|VV (ha).len<|VV (bT 3 false true w2)<|CC<|LL cf<|CC<|ZZ) k!
     rw[e]
     exact ai rfl (az Tryz.func90 Ca k! (.inr rfl) ev k!) (Has.refl _) rfl
   · obtain ⟨yl,cf⟩:=l1 e
     have q1:=TJ (((l.length:Nat):Int)=((m.length:Nat):Int))
     have w2:=fS (((l.length:Nat):Int) - 1)
     have ev:=pk (d) mc (a::b::aV 39) h .ret h (CN 2<|VV (ha).len<|CC<|VV (hb).len<|VV (jb 3 false false .i64 ((l.length:Nat):Int) ((m.length:Nat):Int))<|BB q1<|CC<|VV (ha).len<|VV (bT 3 false true w2)<|CC<|LL cf<|ZZ) k!
     exact ai rfl (az Tryz.func90 Ca k! (.inr rfl) ev k!) (Has.refl _) rfl
 · by_cases q2:l.length<m.length
   · rw[show iL l m= -1 by rw[iL,if_neg q,if_pos q2]]
     have q1:=W0 (((l.length:Nat):Int)=((m.length:Nat):Int))
     have q2:=dg (((l.length:Nat):Int)<((m.length:Nat):Int))
     have ev:=pk (d) mc (a::b::aV 39) h .ret h (CN 2<|VV (ha).len<|CC<|VV (hb).len<|VV (jb 3 false false .i64 ((l.length:Nat):Int) ((m.length:Nat):Int))<|BB q1<|CC<|VV (ha).len<|CC<|VV (hb).len<|VV (bh 3 false false .i64 ((l.length:Nat):Int) ((m.length:Nat):Int))<|BB q2<|CC<|ZZ) k!
     exact ai rfl (az Tryz.func90 Ca k! (.inr rfl) ev k!) (Has.refl _) rfl
   · rw[show iL l m=1 by rw[iL,if_neg q,if_neg q2]]
     have q1:=W0 (((l.length:Nat):Int)=((m.length:Nat):Int))
     have q2:=cI (((l.length:Nat):Int)<((m.length:Nat):Int))
     have ev:=pk (d) mc (a::b::aV 39) h .ret h (CN 2<|VV (ha).len<|CC<|VV (hb).len<|VV (jb 3 false false .i64 ((l.length:Nat):Int) ((m.length:Nat):Int))<|BB q1<|CC<|VV (ha).len<|CC<|VV (hb).len<|VV (bh 3 false false .i64 ((l.length:Nat):Int) ((m.length:Nat):Int))<|BB q2<|CC<|ZZ) k!
     exact ai rfl (az Tryz.func90 Ca k! (.inr rfl) ev k!) (Has.refl _) rfl
noncomputable def AP:Code:=(Tryz.f52.body).getD .skip
theorem adt:Tryz.f52.body=some AP:=by kernel_rfl
noncomputable def yH:Code:=(aY AP).getD 0 .skip
theorem Hy {d:Nat} {h:ah} {l:List Nat} (gD:l.length<2^60):∀(k:Nat) (a:AV),k≤l.length→ao env h .i64 3 a (l.take k)→∀x:Nat→AV,
 ∃r,(∃y:Nat→AV,Ev env (aQ d) (.loop yH) ⟨(a::rx x 1 20 []),h,[],.no⟩ (.exit 0) ⟨(r::rx y 1 20 []),h,[],.no⟩)∧ao env h .i64 3 r (l.take (fk l k))∧∀p,mj p a→mj p r
 | 0,a,hk,ha,x=>by
  obtain ⟨L,hL⟩:∃L,L=l.take 0:=⟨_,rfl⟩
  have hLl:L.length=0:=by rw[hL];simp
  rw[←hL] at ha
  refine ⟨a,?_,by show ao env h .i64 3 a (l.take 0);rw[←hL];exact ha,fun _ o=>o⟩
  have q1:=cI (0<((L.length:Nat):Int))
  have ev:Ev env (aQ (d)) yH ⟨(a::rx x 1 20 []),h,[],.no⟩ (.exit 0) ⟨(a::(x 1)::(x 2)::a::(ag L.length)::(aj (decide (0<((L.length:Nat):Int))))::(aj (decide (0<((L.length:Nat):Int))))::KR 7 ((aj false)::rx x 15 6 [])),h,[],.no⟩:=aR (n:=300) (CC<|VV (ha).len<|VV (bM 3 false true .i64 ((L.length:Nat):Int) 0)<|CC<|BB q1<|BB q1<|BB q1<|BB q1<|BB q1<|BB q1<|BB q1<|VV (aL (a:=some aB) (b:=some (aj false)) q1)<|FF<|ZZ) k!
  exact cT (Ev.out ev) k!
 | k+1,a,hk,ha,x=>by
  obtain ⟨L,hL⟩:∃L,L=l.take (k+1):=⟨_,rfl⟩
  have hLl:L.length=k+1:=by rw[hL];simp;omega
  have hg:L.getD k 0=l.getD k 0:=by
   rw[hL,List.getD_eq_getElem?_getD,List.getElem?_take_of_lt o!,←List.getD_eq_getElem?_getD]
  have ht:L.take k=l.take k:=by rw[hL,List.take_take,Nat.min_eq_left o!]
  rw[←hL] at ha
  by_cases q:L.getD k 0=0
  · rw[show fk l (k+1)=fk l k by rw[fk,if_pos (by rw[←hg];exact q)]]
    obtain ⟨r,e1,e2,e3⟩:=ha.slice (t:=30) (lo:=0) (hi:=k) k! none (some (.int .i64 (((L.length:Nat):Int) - 1))) (.inr ⟨rfl,rfl⟩) (.inl (by rw[show ((L.length:Nat):Int) - 1=(k:Int) by omega])) (Nat.zero_le _) o! o!
    rw[List.drop_zero,ht] at e2
    have q1:=dg (0<((L.length:Nat):Int))
    have w2:=fS (((L.length:Nat):Int) - 1)
    obtain ⟨p3,q4,Lg,Sh⟩:=ha.j8 (((L.length:Nat):Int) - 1) (show k<L.length by omega)
    have q7:=dg (((L.getD k 0:Nat):Int)=0)
    have ev:Ev env (aQ (d)) yH ⟨(a::rx x 1 20 []),h,[],.no⟩ .normal ⟨[r,(x 1),(x 2),a,(ag L.length),(aj (decide (0<((L.length:Nat):Int)))),(aj (decide (0<((L.length:Nat):Int)))),a,a,(ag L.length),(af (((L.length:Nat):Int) - 1)),(AV.ptr p3 q4),(ag (L.getD k 0)),(aj (decide (((L.getD k 0:Nat):Int)=0))),(aj (decide (((L.getD k 0:Nat):Int)=0))),a,a,(ag L.length),(af (((L.length:Nat):Int) - 1)),r,(x 20)],h,[],.no⟩:=aR (n:=300) (CC<|VV (ha).len<|VV (bM 3 false true .i64 ((L.length:Nat):Int) 0)<|CC<|BB q1<|CC<|BB q1<|CC<|BB q1<|VV (ha).len<|BB q1<|VV (bT 3 false true w2)<|BB q1<|VV Lg<|BB q1<|MM Sh<|BB q1<|VV (bQ 3 false true .i64 ((L.getD k 0:Nat):Int) 0)<|VV (aG (a:=some (aj (decide (((L.getD k 0:Nat):Int)=0)))) (b:=some (aj false)) q1)<|BB q7<|CN 2<|VV (ha).len<|VV (bT 3 false true w2)<|QQ e1<|CC<|ZZ) k!
    obtain ⟨r',⟨y,h1⟩,h2,h3⟩:=Hy (d:=d) gD k r o! e2 (fun k_=>([r,(x 1),(x 2),a,(ag L.length),(aj (decide (0<((L.length:Nat):Int)))),(aj (decide (0<((L.length:Nat):Int)))),a,a,(ag L.length),(af (((L.length:Nat):Int) - 1)),(AV.ptr p3 q4),(ag (L.getD k 0)),(aj (decide (((L.getD k 0:Nat):Int)=0))),(aj (decide (((L.getD k 0:Nat):Int)=0))),a,a,(ag L.length),(af (((L.length:Nat):Int) - 1)),r,(x 20)]:List AV).getD k_ aB)
    exact ⟨r',⟨y,tg (tmpl:=fun x=>(r::rx x 1 20 [])) ev k! h1⟩,h2,fun p o=>h3 p (e3 p o)⟩
  · rw[show fk l (k+1)=k+1 by rw[fk,if_neg (by rw[←hg];exact q)]]
    have q1:=dg (0<((L.length:Nat):Int))
    have w2:=fS (((L.length:Nat):Int) - 1)
    obtain ⟨p3,q4,Lg,Sh⟩:=ha.j8 (((L.length:Nat):Int) - 1) (show k<L.length by omega)
    have q7:=cI (((L.getD k 0:Nat):Int)=0)
    have ev:Ev env (aQ (d)) yH ⟨(a::rx x 1 20 []),h,[],.no⟩ (.exit 0) ⟨(a::(x 1)::(x 2)::a::(ag L.length)::(aj (decide (0<((L.length:Nat):Int))))::(aj (decide (0<((L.length:Nat):Int))))::a::a::(ag L.length)::(af (((L.length:Nat):Int) - 1))::(AV.ptr p3 q4)::(ag (L.getD k 0))::(aj (decide (((L.getD k 0:Nat):Int)=0)))::(aj (decide (((L.getD k 0:Nat):Int)=0)))::rx x 15 6 []),h,[],.no⟩:=aR (n:=300) (CC<|VV (ha).len<|VV (bM 3 false true .i64 ((L.length:Nat):Int) 0)<|CC<|BB q1<|CC<|BB q1<|CC<|BB q1<|VV (ha).len<|BB q1<|VV (bT 3 false true w2)<|BB q1<|VV Lg<|BB q1<|MM Sh<|BB q1<|VV (bQ 3 false true .i64 ((L.getD k 0:Nat):Int) 0)<|VV (aG (a:=some (aj (decide (((L.getD k 0:Nat):Int)=0)))) (b:=some (aj false)) q1)<|BB q7<|ZZ) k!
    exact ⟨a,cT (Ev.out ev) k!,by rw[←hL];exact ha,fun _ o=>o⟩
theorem mR {d:Nat} {h:ah} {a:AV} {l:List Nat} (ha:ao env h .i64 3 a l) (gD:l.length<2^60):∃r,aQ (d+1) (.fn 52) [a] h= .ret r h∧ao env h .i64 3 r (bR l)∧∀p,mj p a→mj p r:=by
 obtain ⟨r,⟨yl,cf⟩,h2,h3⟩:=Hy (d:=d) gD l.length a (Nat.le_refl _) (by rw[List.take_length];exact ha) (fun k=>((a::aB::bE::aV 18):List AV).getD k aB)
 have ev:Ev env (aQ (d)) AP ⟨(a::aV 20),h,[],.no⟩ .ret ⟨(r::(yl 1)::r::rx yl 3 17 (r::[])),h,[],.no⟩:=aR (n:=300) (CC<|LL cf<|CN 2<|ZZ) k!
 exact ⟨r,fP rfl (az Tryz.func52 adt k! (.inr rfl) ev k!),h2,h3⟩
noncomputable def AQ:Code:=(Tryz.f34.body).getD .skip
theorem adu:Tryz.f34.body=some AQ:=by kernel_rfl
noncomputable def yI:Code:=(aY AQ).getD 0 .skip
def tW (k:IntKind) (e:TypeId) (h0 h:ah) (z:AV) (l:List Nat):Prop:=(z= .ax∧l=[])∨(l≠ []∧∃p op,z= .slice p 0 l.length l.length op∧h0.nx≤p∧h.get p=some (.cells (aA k l) e false))
theorem tW.has {k:IntKind} {e:TypeId} {h0 h h':ah} {z:AV} {l:List Nat} (o:tW k e h0 h z l) (a:Has h h'):tW k e h0 h' z l:=o.imp id fun ⟨hn,p,op,e,h1,g⟩=>⟨hn,p,op,e,h1,a _ _ g⟩
theorem tW.aA {k:IntKind} {e:TypeId} {h0 h:ah} {z:AV} {l:List Nat} (o:tW k e h0 h z l) (hl:l.length<2^60) (hs:bK env e=some 1) (ha:iS env e=some false):ao env h k e z l:=by
 rcases o with ⟨rfl,rfl⟩ | ⟨hn,p,op,rfl,_,hg⟩
 · exact ao.nil hs ha
 · exact ao.of hs ha hl (Nat.le_refl _) (fun _=>List.length_pos_iff.2 hn) hg fun i z hz=>by rw[Nat.zero_add];exact dP hz
theorem tW.app {k:IntKind} {e s xt:TypeId} {h0 h:ah} {tys:Array TypeId} {bytes:Nat} {z0 z x:AV} {l m:List Nat} (y:Tidy h) (y0:Tidy h0) (a:Has h0 h) (hle:h0.nx≤h.nx) (o:tW k e h0 h z l) (t0:tys[0]? =some s) (t1:tys[1]? =some xt) (hs:env.P.underlying s=some (.slice e)) (hx:env.P.underlying xt=some (.slice e)) (Ij:bK env e=some 1) (hb:mr env e=some bytes) (Jd:jW env e=some z0) (hz:z0.cells.length=1) (h8:bytes≤15) (x1:ao env h k e x m) (hm:m≠ []) (hl:l.length+m.length≤1073741824):
 ∃z' h',dI env h tys z x=some (z',h')∧Tidy h'∧h.nx≤h'.nx∧Has h0 h'∧tW k e h0 h' z' (l++m):=by
 rcases o with ⟨rfl,rfl⟩ | ⟨hn,p,op,rfl,hp,hg⟩
 · obtain ⟨h',e1,n⟩:=append_nil (h:=h) t0 t1 hs hx Ij hb Jd hz h8 x1 hm o!
   have:=cW n
   exact ⟨_,h',e1,bI y n,by omega,a.trans (bu y n),.inr ⟨hm,h.nx,true,rfl,hle,bU n⟩⟩
 · obtain ⟨h',e1,y1,z1,k1,g1⟩:=uJ (op:=op) y t0 t1 hs hx Ij hb Jd hz h8 x1 rfl hm hl hg
   exact ⟨_,h',e1,y1,by omega,Has.ak a k1 y0 hp,.inr ⟨by simp [hn],h.nx,true,by rw[List.length_append],hle,g1⟩⟩
theorem fi {h:ah} {b w:Nat} {f:TypeId} {ro op:Bool} (hg:h.get b=some (.cells [.int .i64 (w:Nat)] f ro)):ao env h .i64 3 (.slice b 0 1 1 op) [w]:=
 ao.of (l:=[w]) k! k! (by simp) (by simp) (fun _=>Nat.succ_pos _) hg fun i z hz=>by
  match i with
  | 0=>simp at hz;subst hz;rfl
  | i+1=>simp at hz
def nW (u:Nat):List Nat:=if h:u=0 then [] else u%1000000000::nW (u/1000000000)
termination_by u
decreasing_by omega
theorem eO:nW 0=[]:=by rw[nW];rfl
theorem AR {u:Nat} (h:u≠0):nW u=u%1000000000::nW (u/1000000000):=by rw[nW,dif_neg h]
theorem SC {d:Nat} {h0:ah} (Wc:Tidy h0) (k:Nat):∀(u:Nat) (h:ah) (z:AV) (l:List Nat),u<1000000000^k→l.length+k≤1000→u<18446744073709551616→Tidy h→Has h0 h→h0.nx≤h.nx→tW .i64 3 h0 h z l→∀x:Nat→AV,
 ∃(a:AV) (h':ah),(∃y:Nat→AV,Ev env (aQ d) (.loop yI) ⟨((ae u)::(x 1)::(x 2)::z::rx x 4 11 []),h,[],.no⟩ (.exit 0) ⟨(rx y 0 3 (a::rx y 4 11 [])),h',[],.no⟩)∧Tidy h'∧Has h0 h'∧h0.nx≤h'.nx∧tW .i64 3 h0 h' a (l++nW u):=by
 induction k with
 | zero=>
  intro u h z l hu hl E3 aw a0 hle oz x
  have Qy:u=0:=by simpa using hu
  have q1:=cI (0<(u:Int))
  have ev:=pk (d) yI ((ae u)::(x 1)::(x 2)::z::rx x 4 11 []) h (.exit 0) h (CC<|VV (bM 54 false true .u64 (u:Int) 0)<|BB q1<|ZZ) k!
  exact ⟨z,h,cT (Ev.out ev) k!,aw,a0,hle,by rw[Qy,eO,List.append_nil];exact oz⟩
 | succ k ih=>
  intro u h z l hu hl E3 aw a0 hle oz x
  by_cases q:u=0
  · have q1:=cI (0<(u:Int))
    have ev:=pk (d) yI ((ae u)::(x 1)::(x 2)::z::rx x 4 11 []) h (.exit 0) h (CC<|VV (bM 54 false true .u64 (u:Int) 0)<|BB q1<|ZZ) k!
    exact ⟨z,h,cT (Ev.out ev) k!,aw,a0,hle,by rw[q,eO,List.append_nil];exact oz⟩
  · have ew:IntKind.i64.wrap ((u%1000000000:Nat):Int)=((u%1000000000:Nat):Int):=wrap_i64 o! o!
    have q1:=dg (0<(u:Int))
    have u2:=afV 54 false true u 1000000000
    obtain ⟨h3,gn,bt,ky,eb,bC⟩:=de aw (ar.cells [(af (IntKind.i64.wrap ((u%1000000000:Nat):Int)))] 3 false)
    have aX:Has h h3:=bC
    have gw:=eb
    rw[ew] at gw
    obtain ⟨z2,h4,Pv,gk,VL,aaT,W3⟩:=tW.app (h0:=h0) bt Wc (a0.trans aX) o! (oz.has aX) (tys:= #[30,30]) rfl rfl k! k! k! (bytes:=8) k! (z0:=AV.int .i64 0) k! rfl (by decide) (fi (op:=false) gw) (by simp) (by simp;omega)
    have u5:=afU 54 false true u 1000000000
    have ev:=pk (d) yI ((ae u)::(x 1)::(x 2)::z::rx x 4 11 []) h .normal h4 (CC<|VV (bM 54 false true .u64 (u:Int) 0)<|BB q1<|CN 2<|VV u2<|CC<|NN gn (fun i=>(AV.slice i 0 1 1 false))<|PP Pv<|CN 2<|VV u5<|CC<|ZZ) k!
    rw[AR q]
    have e:l++u%1000000000::nW (u/1000000000)=(l++[u%1000000000])++nW (u/1000000000):=by simp
    rw[e]
    have hu':u/1000000000<1000000000^k:=by
     rw[Nat.div_lt_iff_lt_mul (by decide),←Nat.pow_succ]
     exact hu
    exact bp (tin:=fun x=>((ae (u/1000000000))::(x 1)::(x 2)::z2::rx x 4 11 [])) ev k! fun x=>ih (u/1000000000) h4 z2 (l++[u%1000000000]) hu' (by simp;omega) o! gk aaT o! W3 x
theorem Uw {d:Nat} {h:ah} {u:Nat} (E3:u<18446744073709551616) (aw:Tidy h):∃z hk,aQ (d+1) (.fn 34) [.int .u64 (u:Nat)] h= .ret z hk∧Grow h hk∧tW .i64 3 h hk z (nW u):=by
 obtain ⟨z,hl,⟨yl,cf⟩,np,qT,SD,oz⟩:=SC (d:=d) (h0:=h) aw 3 u h .ax [] o! (by simp) E3 aw (Has.refl _) (Nat.le_refl _) (.inl ⟨rfl,rfl⟩) (fun k=>(((ae u)::aB::bE::bE::aV 11):List AV).getD k aB)
 have ev:=pk (d) AQ ((ae u)::aV 14) h .ret hl (CN 2<|LL cf<|CN 2<|ZZ) k!
 rw[List.nil_append] at oz
 exact ⟨z,aU rfl (az Tryz.func34 adu k! (.inr rfl) ev k!) aw ⟨np,qT,SD⟩ (P:=fun hh=>tW .i64 3 h hh z (nW u)) oz fun v=>by
  rcases oz with o | ⟨_,p,op,rfl,h1,_⟩
  · exact .inl o
  · have:=of_decide_eq_true (show decide (p<h.nx)=true from v)
    omega⟩
noncomputable def yJ:Code:=(Tryz.f27.body).getD .skip
theorem agL:Tryz.f27.body=some yJ:=by kernel_rfl
noncomputable def Cb:Code:=(aY yJ).getD 0 .skip
noncomputable def Cc:Code:=(aY yJ).getD 1 .skip
theorem size_inner {d:Nat} {h:ah} {z:AV} {s:List UInt8} {f0:Int} {F:Nat} (hs:s.length<2^60) (hd:jy (cL s)) (hF:F≤s.length) (h9:s.length - F≤9):∀(k j n:Nat),j+k=s.length→F≤j→n=bJ (((cL s).drop F).take (j - F))→∀x:Nat→AV,
 ∃y:Nat→AV,Ev env (aQ (d+1)) (.loop Cc) ⟨((AV.str s)::(x 1)::(x 2)::z::(af f0)::(ag n)::(ag j)::rx x 7 31 []),h,[],.no⟩ (.exit 2) ⟨((AV.str s)::(y 1)::(y 2)::z::(af f0)::(ag (bJ (List.drop F (cL s))))::rx y 6 32 []),h,[],.no⟩
 | 0,j,n,hj,hFj,hn,x=>by
  have e:n=bJ (List.drop F (cL s)):=by rw[hn,List.take_of_length_le (by simp [fM];omega)]
  have q1:=cI ((j:Int)<((List.length s:Nat):Int))
  have ev:=pk (d+1) Cc ((AV.str s)::(x 1)::(x 2)::z::(af f0)::(ag n)::(ag j)::rx x 7 31 []) h (.exit 2) h (CN 3<|VV (bh 3 false false .i64 (j:Int) ((List.length s:Nat):Int))<|BB q1<|ZZ) k!
  rw[←e]
  exact cT (Ev.out ev) k!
 | k+1,j,n,hj,hFj,hn,x=>by
  have EJ:j<s.length:=by omega
  have kc:=u0 EJ
  have hc:=hd (s[j]).toNat (List.mem_map.2 ⟨s[j],List.getElem_mem EJ,rfl⟩)
  have hb:(cL s).getD j 0=(s[j]).toNat:=by simp [cL,List.getD_eq_getElem?_getD,EJ]
  obtain ⟨c,hcc⟩:∃c,c=(s[j]).toNat:=⟨_,rfl⟩
  rw[←hcc] at kc hc hb
  have FM:n<100000000:=by
   have hdg:jy (((cL s).drop F).take (j - F)):=fun c hc=>hd c (List.mem_of_mem_drop (List.mem_of_mem_take hc))
   have:=pC hdg
   rw[←hn] at this
   refine Nat.lt_of_lt_of_le this (Nat.pow_le_pow_right (n:=10) (by decide) (show _≤8 from ?_))
   rw[List.length_take];omega
  have ec:IntKind.i64.wrap (IntKind.u8.wrap ((c:Int) - 48))=((c - 48:Nat):Int):=by
   rw[show (c:Int) - 48=((c - 48:Nat):Int) by omega,wrap_u8 o!,wrap_i64 o! o!]
  have WO:10*n+(c - 48)=bJ (((cL s).drop F).take (j+1 - F)):=by
   rw[show j+1 - F=(j - F)+1 by omega,tC (by rw[List.length_drop,fM];omega),yA,←hn]
   have:((cL s).drop F).getD (j - F) 0=c:=by
    rw[←hb,List.getD_eq_getElem?_getD,List.getElem?_drop,show F+(j - F)=j by omega,←List.getD_eq_getElem?_getD]
   rw[this];omega
  clear hb
  have q1:=dg ((j:Int)<((List.length s:Nat):Int))
  have w2:=fS (10*(n:Int))
  have w3:=fS ((10*(n:Int))+(IntKind.i64.wrap (IntKind.u8.wrap ((c:Int) - 48))))
  have w4:=fS ((j:Int)+1)
  have ev:=pk (d+1) Cc ((AV.str s)::(x 1)::(x 2)::z::(af f0)::(ag n)::(ag j)::rx x 7 31 []) h .normal h (CN 3<|VV (bh 3 false false .i64 (j:Int) ((List.length s:Nat):Int))<|BB q1<|CC<|VV (Iy 3 true false w2)<|CN 2<|VV kc<|CN 2<|VV (iI 3 false false w3)<|CN 2<|VV (iI 3 false true w4)<|CC<|ZZ) k!
  rw[show ((10*(n:Int))+(IntKind.i64.wrap (IntKind.u8.wrap ((c:Int) - 48))))=((10*n+(c - 48):Nat):Int) by omega] at ev
  exact bO ev k! fun x=>size_inner hs hd hF h9 k (j+1) (10*n+(c - 48)) o! o! WO x
def Qz:Nat→List Nat→List Nat
 | 0,_=> []
 | k+1,L=>if L.length=0 then [] else bJ (L.drop (L.length - 9))::Qz k (L.take (L.length - 9))
theorem Wd {d:Nat} {h0:ah} (Wc:Tidy h0) (k:Nat):∀(s:List UInt8) (h:ah) (z:AV) (l:List Nat),s.length≤9*k→s.length<2^60→l.length+k≤1000000→jy (cL s)→Tidy h→Has h0 h→h0.nx≤h.nx→tW .i64 3 h0 h z l→∀x:Nat→AV,
 ∃(a:AV) (h':ah),(∃y:Nat→AV,Ev env (aQ (d+1)) (.loop Cb) ⟨((AV.str s)::(x 1)::(x 2)::z::rx x 4 34 []),h,[],.no⟩ (.exit 0) ⟨(rx y 0 3 (a::rx y 4 34 [])),h',[],.no⟩)∧Tidy h'∧Has h0 h'∧h0.nx≤h'.nx∧tW .i64 3 h0 h' a (l++Qz k (cL s)):=by
 induction k with
 | zero=>
  intro s h z l hu hs hl hd aw a0 hle oz x
  have q1:=cI (0<((List.length s:Nat):Int))
  have ev:=pk (d+1) Cb ((AV.str s)::(x 1)::(x 2)::z::rx x 4 34 []) h (.exit 0) h (CN 2<|VV (bM 3 false true .i64 ((List.length s:Nat):Int) 0)<|BB q1<|ZZ) k!
  exact ⟨z,h,cT (Ev.out ev) k!,aw,a0,hle,by rw[Qz,List.append_nil];exact oz⟩
 | succ k ih=>
  intro s h z l hu hs hl hd aw a0 hle oz x
  by_cases q:s.length=0
  · have q1:=cI (0<((List.length s:Nat):Int))
    have ev:=pk (d+1) Cb ((AV.str s)::(x 1)::(x 2)::z::rx x 4 34 []) h (.exit 0) h (CN 2<|VV (bM 3 false true .i64 ((List.length s:Nat):Int) 0)<|BB q1<|ZZ) k!
    exact ⟨z,h,cT (Ev.out ev) k!,aw,a0,hle,by rw[Qz,if_pos (by rw[fM];exact q),List.append_nil];exact oz⟩
  · obtain ⟨f,hf⟩:∃f,f=s.length - 9:=⟨_,rfl⟩
    have ef:(if 0>(((List.length s:Nat):Int) - 9) then 0 else (((List.length s:Nat):Int) - 9))=(f:Int):=by split<;>omega
    obtain ⟨w,hw⟩:∃w,w=bJ (List.drop f (cL s)):=⟨_,rfl⟩
    have q1:=dg (0<((List.length s:Nat):Int))
    have w2:=fS (((List.length s:Nat):Int) - 9)
    obtain ⟨yi,xE⟩:=size_inner (d:=d) (h:=h) (z:=z) (f0:=(f:Int)) (F:=f) hs hd o! o! (s.length - f) f 0 o! o! (by simp [bJ]) (fun k=>(((AV.str s)::(x 1)::(x 2)::z::(af (if 0>(((List.length s:Nat):Int) - 9) then 0 else (((List.length s:Nat):Int) - 9)))::(af 0)::(af (if 0>(((List.length s:Nat):Int) - 9) then 0 else (((List.length s:Nat):Int) - 9)))::(AV.str s)::(ag (List.length s))::(aj (decide (0<((List.length s:Nat):Int))))::(AV.str s)::(ag (List.length s))::(af (((List.length s:Nat):Int) - 9))::(af (if 0>(((List.length s:Nat):Int) - 9) then 0 else (((List.length s:Nat):Int) - 9)))::(af (if 0>(((List.length s:Nat):Int) - 9) then 0 else (((List.length s:Nat):Int) - 9)))::rx x 15 23 []):List AV).getD k aB)
    rw[←hw] at xE
    rw[ef] at xE
    obtain ⟨h3,gn,bt,ky,eb,bC⟩:=de aw (ar.cells [(ag w)] 3 false)
    have aX:Has h h3:=bC
    have gw:=eb
    obtain ⟨z2,h4,Pv,gk,VL,aaT,W3⟩:=tW.app (h0:=h0) bt Wc (a0.trans aX) o! (oz.has aX) (tys:= #[30,30]) rfl rfl k! k! k! (bytes:=8) k! (z0:=AV.int .i64 0) k! rfl (by decide) (fi (op:=false) gw) (by simp) (by simp;omega)
    have V8:aZ env 9 (AV.str s) (none) (some (af (if 0>(((List.length s:Nat):Int) - 9) then 0 else (((List.length s:Nat):Int) - 9)))) (none)=some (AV.str (List.take f s)):=tk k! ef (by first | omega | (simp;omega))
    have ev:=pk (d+1) Cb ((AV.str s)::(x 1)::(x 2)::z::rx x 4 34 []) h .normal h4 (CN 2<|VV (bM 3 false true .i64 ((List.length s:Nat):Int) 0)<|BB q1<|CN 2<|VV (bT 3 false true w2)<|CN 5<|LL (show Ev env (aQ (d+1)) (.loop Cc) ⟨((AV.str s)::(x 1)::(x 2)::z::(af (if 0>(((List.length s:Nat):Int) - 9) then 0 else (((List.length s:Nat):Int) - 9)))::(af 0)::(af (if 0>(((List.length s:Nat):Int) - 9) then 0 else (((List.length s:Nat):Int) - 9)))::(AV.str s)::(ag (List.length s))::(aj (decide (0<((List.length s:Nat):Int))))::(AV.str s)::(ag (List.length s))::(af (((List.length s:Nat):Int) - 9))::(af (if 0>(((List.length s:Nat):Int) - 9) then 0 else (((List.length s:Nat):Int) - 9)))::(af (if 0>(((List.length s:Nat):Int) - 9) then 0 else (((List.length s:Nat):Int) - 9)))::rx x 15 23 []),h,[],.no⟩ (.exit 2) ⟨((AV.str s)::(yi 1)::(yi 2)::z::(af (if 0>(((List.length s:Nat):Int) - 9) then 0 else (((List.length s:Nat):Int) - 9)))::(ag w)::rx yi 6 32 []),h,[],.no⟩ from (by rw[ef];exact xE))<|CN 2<|NN gn (fun i=>(AV.slice i 0 1 1 false))<|PP Pv<|CN 3<|QQ V8<|CC<|ZZ) k!
    have e:l++Qz (k+1) (cL s)=(l++[w])++Qz k (cL (List.take f s)):=by
     rw[Qz,if_neg (by rw[fM];exact q),fM,←hf,←hw,BH];simp
    rw[e]
    exact bp (tin:=fun x=>((AV.str (List.take f s))::(x 1)::(x 2)::z2::rx x 4 34 [])) ev k! fun x=>ih (List.take f s) h4 z2 (l++[w]) (by rw[List.length_take];omega) (by rw[List.length_take];omega) (by simp;omega) (by rw[BH];exact fun c hc=>hd c (List.mem_of_mem_take hc)) gk aaT o! W3 x
theorem agM {d:Nat} {h:ah} {s:List UInt8} (hs:s.length<1000000) (hd:jy (cL s)) (aw:Tidy h):∃r hk,aQ (d+2) (.fn 27) [.str s] h= .ret r hk∧Grow h hk∧ao env hk .i64 3 r (bR (Qz s.length (cL s)))∧∀p,p<h.nx→mj p r:=by
 obtain ⟨z,hl,⟨yl,cf⟩,np,qT,SD,oz⟩:=Wd (d:=d) (h0:=h) aw s.length s h .ax [] o! o! (by simp;omega) hd aw (Has.refl _) (Nat.le_refl _) (.inl ⟨rfl,rfl⟩) (fun k=>(((AV.str s)::aB::bE::bE::aV 34):List AV).getD k aB)
 rw[List.nil_append] at oz
 have cl:∀(k:Nat) (L:List Nat),(Qz k L).length≤k:=fun k=>by
  induction k with
  | zero=>intro L;exact Nat.le_refl _
  | succ k ih=>intro L;rw[Qz];split;simp;simp only[List.length_cons];have:=ih (L.take (L.length - 9));omega
 have:=cl s.length (cL s)
 obtain ⟨r,kr,nr,or⟩:=mR (d:=d) (oz.aA o! k! k!) o!
 have ev:=pk (d+1) yJ ((AV.str s)::aV 37) h .ret hl (CN 2<|LL cf<|CC<|EE kr<|CC<|ZZ) k!
 have oa:∀p,p<h.nx→mj p z:=fun p hp=>by
  rcases oz with ⟨rfl,_⟩ | ⟨_,p',op,rfl,h1,_⟩
  · intro o n c b e;cases e
  · intro o n c b e;cases e;omega
 obtain ⟨hk,k1,k2,k3⟩:=aU (v:=r) rfl (az Tryz.func27 agL k! (.inr rfl) ev k!) aw ⟨np,qT,SD⟩ (P:=fun hh=>ao env hh .i64 3 r (bR (Qz s.length (cL s)))) nr fun v=>by
  rcases nr.known with rfl | ⟨p,o,n,c,b,rfl,_⟩
  · have h1:=nr.len
    rw[nZ] at h1
    simp only[Option.some.injEq,AV.int.injEq,true_and] at h1
    rw[List.length_eq_zero_iff.1 (show (bR (Qz s.length (cL s))).length=0 by omega)]
    exact ao.nil k! k!
  · have:=of_decide_eq_true (show decide (p<h.nx)=true from v)
    exact absurd rfl (or p (oa p this) o n c b)
 exact ⟨r,hk,k1,k2,k3,fun p hp=>or p (oa p hp)⟩
def bN:List Nat→Nat
 | []=>0
 | a::l=>a+1000000000*bN l
def bS (l:List Nat):Prop:=∀w∈l,w<1000000000
theorem bS.tail {a:Nat} {l:List Nat} (w:bS (a::l)):bS l:=fun x hx=>w x (List.mem_cons_of_mem _ hx)
theorem bS.take {l:List Nat} (w:bS l) (k:Nat):bS (l.take k):=fun x hx=>w x (List.mem_of_mem_take hx)
theorem bS.append {l m:List Nat} (a:bS l) (b:bS m):bS (l++m):=fun x hx=>(List.mem_append.1 hx).elim (a x) (b x)
theorem bS.one {a:Nat} (h:a<1000000000):bS [a]:=fun x hx=>by rcases List.mem_singleton.1 hx with rfl;exact h
theorem bS.nil:bS []:=fun x hx=>by cases hx
theorem bS.cons {a:Nat} {l:List Nat} (h:a<1000000000) (w:bS l):bS (a::l):=fun x hx=>(List.mem_cons.1 hx).elim (fun e=>e▸h) (w x)
theorem bS.rep (n:Nat):bS (List.replicate n 0):=fun x hx=>by rw[(List.mem_replicate.1 hx).2];decide
theorem bS.at {l:List Nat} (w:bS l) (i:Nat):l.getD i 0<1000000000:=by
 rw[List.getD_eq_getElem?_getD]
 by_cases h:i<l.length
 · rw[List.getElem?_eq_getElem h];exact w _ (List.getElem_mem h)
 · rw[List.getElem?_eq_none o!];decide
theorem bS.set {l:List Nat} (w:bS l) {i v:Nat} (h:v<1000000000):bS (l.set i v):=fun x hx=>by
 rcases List.mem_or_eq_of_mem_set hx with h1 | h1
 · exact w x h1
 · rw[h1];exact h
theorem vc {l:List Nat} (w:bS l):bN l<1000000000^l.length:=by
 induction l with
 | nil=>exact Nat.one_pos
 | cons a l ih=>
  have h1:=ih w.tail
  have h2:=w a (List.mem_cons_self ..)
  rw[bN,List.length_cons,Nat.pow_succ]
  have:=Nat.mul_le_mul_left 1000000000 (show bN l+1≤1000000000^l.length from h1)
  rw[Nat.mul_comm (1000000000^l.length)]
  omega
theorem Pw (l m:List Nat):bN (l++m)=bN l+1000000000^l.length*bN m:=by
 induction l with
 | nil=>simp [bN]
 | cons a l ih=>rw[List.cons_append,bN,ih,bN,List.length_cons,Nat.pow_succ,Nat.mul_add,Nat.mul_comm (1000000000^l.length) 1000000000,Nat.mul_assoc];omega
theorem JN (l:List Nat) (x:Nat):bN (l++[x])=bN l+1000000000^l.length*x:=by rw[Pw];simp [bN]
theorem SE {l:List Nat} {j:Nat} (hj:j<l.length):l.take (j+1)=l.take j++[l.getD j 0]:=by
 rw[List.take_add_one,List.getElem?_eq_getElem hj,List.getD_eq_getElem?_getD,List.getElem?_eq_getElem hj];rfl
theorem pS {l:List Nat} {n:Nat} (h:n<l.length):bN (l.take (n+1))=bN (l.take n)+1000000000^n*l.getD n 0:=by
 rw[SE h,JN,List.length_take,Nat.min_eq_left o!]
theorem Hz:∀n,bN (List.replicate n 0)=0
 | 0=>rfl
 | n+1=>by rw[List.replicate_succ,bN,Hz n]
theorem Px {v:Nat}:∀{l:List Nat} {i:Nat},i<l.length→bN (l.set i v)+l.getD i 0*1000000000^i=bN l+v*1000000000^i
 | a::l,0,_=>by simp [bN];omega
 | a::l,i+1,h=>by
  have:=Px (v:=v) (l:=l) (i:=i) (by simpa using h)
  rw[List.set_cons_succ,bN,bN,List.getD_cons_succ,Nat.pow_succ,←Nat.mul_assoc,←Nat.mul_assoc]
  omega
theorem jo (n:Nat):bN (nW n)=n:=by
 induction n using Nat.strongRecOn with
 | ind n ih=>
  by_cases h:n=0
  · subst h;rw[eO];rfl
  · rw[AR h,bN,ih _ (Nat.div_lt_self (Nat.pos_of_ne_zero h) (by decide))]
    exact Nat.mod_add_div n 1000000000
theorem eS (n:Nat):bS (nW n):=by
 induction n using Nat.strongRecOn with
 | ind n ih=>
  by_cases h:n=0
  · subst h;rw[eO];exact bS.nil
  · rw[AR h]
    exact bS.cons (Nat.mod_lt _ (by decide)) (ih _ (Nat.div_lt_self (Nat.pos_of_ne_zero h) (by decide)))
theorem nM {n:Nat}:nW n=[]↔n=0:=by
 constructor
 · intro h
   have:=jo n
   rw[h] at this
   exact this.symm
 · rintro rfl;exact eO
theorem Py {l:List Nat} (w:bS l) (h:l=[]∨l.getD (l.length - 1) 0≠0):nW (bN l)=l:=by
 induction l with
 | nil=>exact eO
 | cons a l ih=>
  have ha:=w a (List.mem_cons_self ..)
  have hl:l=[]∨l.getD (l.length - 1) 0≠0:=by
   cases l with
   | nil=>exact .inl rfl
   | cons b l=>exact .inr (by rcases h with h | h;cases h;simpa using h)
  have ih:=ih w.tail hl
  have hn:bN (a::l)≠0:=by
   rw[bN]
   intro e
   have h1:a=0:=by omega
   have h2:bN l=0:=by omega
   rw[h2,eO] at ih
   subst ih
   rcases h with h | h
   · cases h
   · exact h (by simpa using h1)
  rw[AR hn,bN]
  have e1:(a+1000000000*bN l)%1000000000=a:=by omega
  have e2:(a+1000000000*bN l) /1000000000=bN l:=by omega
  rw[e1,e2,ih]
theorem AS (l:List Nat):∀n,n≤l.length→bN (l.take (fk l n))=bN (l.take n)
 | 0,_=>rfl
 | n+1,hn=>by
  unfold fk
  split
  · rename_i h
    rw[AS l n o!,pS o!,h,Nat.mul_zero,Nat.add_zero]
  · rfl
theorem SF (l:List Nat):bN (bR l)=bN l:=by
 have:=AS l l.length (Nat.le_refl _)
 rw[List.take_length] at this
 exact this
theorem tX {l:List Nat} (w:bS l):bR l=nW (bN l):=by
 rw[←SF l]
 refine (Py (w.take _) ?_).symm
 have hle:=qu l l.length
 rcases uM l l.length (Nat.le_refl _) with h | h
 · exact .inl (by rw[h];rfl)
 · refine .inr ?_
   have e:(l.take (fk l l.length)).length=fk l l.length:=by simp;omega
   rw[e,List.getD_eq_getElem?_getD]
   by_cases hz:fk l l.length=0
   · rw[hz] at h ⊢
     exfalso
     apply h
     have:=AS l l.length (Nat.le_refl _)
     rw[hz,List.take_zero,List.take_length] at this
     cases l with
     | nil=>rfl
     | cons a l=>
      have:0=a+1000000000*bN l:=this
      have:a=0:=by omega
      simpa using this
   · rw[List.getElem?_take_of_lt o!,←List.getD_eq_getElem?_getD];exact h
theorem jS {n k:Nat} (h:n<1000000000^k):(nW n).length≤k:=by
 induction k generalizing n with
 | zero=>
  have:n=0:=by simpa using h
  subst this;rw[eO];exact Nat.le_refl _
 | succ k ih=>
  by_cases hz:n=0
  · subst hz;rw[eO];exact Nat.zero_le _
  · rw[AR hz,List.length_cons]
    have:=ih (n:=n/1000000000) (by rw[Nat.div_lt_iff_lt_mul (by decide)];rwa [Nat.pow_succ] at h)
    omega
theorem Ux (n:Nat):n<1000000000^(nW n).length:=by
 have:=vc (eS n)
 rwa [jo] at this
theorem dD {a b:Nat} (h:a≤b):(nW a).length≤(nW b).length:=jS (Nat.lt_of_le_of_lt h (Ux b))
theorem mS {n:Nat} (h0:n≠0) (h:n<1000000000):nW n=[n]:=by
 rw[AR h0,Nat.mod_eq_of_lt h,Nat.div_eq_of_lt h,eO]
theorem Pz {l m:List Nat} (wl:bS l) (wm:bS m):∀k,k≤l.length→k≤m.length→zw l m k=if bN (l.take k)=bN (m.take k) then 0 else if bN (l.take k)<bN (m.take k) then -1 else 1
 | 0,_,_=>by simp [zw]
 | k+1,hl,hm=>by
  have ih:=Pz wl wm k o! o!
  rw[zw,pS o!,pS o!,ih]
  have h1:=vc (wl.take k)
  have h2:=vc (wm.take k)
  rw[List.length_take,Nat.min_eq_left o!] at h1 h2
  generalize bN (l.take k)=x at *
  generalize bN (m.take k)=y at *
  generalize l.getD k 0=u at *
  generalize m.getD k 0=v at *
  generalize 1000000000^k=P at *
  by_cases q:u=v
  · subst q
    rw[if_pos rfl]
    by_cases q1:x=y
    · simp [q1]
    · by_cases q2:x<y<;>simp [q1,q2]
  · rw[if_neg q]
    by_cases q2:u<v
    · have:=Nat.mul_le_mul_left P (show u+1≤v from q2)
      rw[Nat.mul_add,Nat.mul_one] at this
      rw[if_pos q2,if_neg o!,if_pos o!]
    · have:=Nat.mul_le_mul_left P (show v+1≤u by omega)
      rw[Nat.mul_add,Nat.mul_one] at this
      rw[if_neg q2,if_neg o!,if_neg o!]
theorem Ly (a b:Nat):iL (nW a) (nW b)=if a=b then 0 else if a<b then -1 else 1:=by
 unfold iL
 by_cases q:(nW a).length=(nW b).length
 · rw[if_pos q,Pz (eS a) (eS b) _ (Nat.le_refl _) o!,List.take_length,q,List.take_length,jo,jo]
 · rw[if_neg q]
   by_cases q2:(nW a).length<(nW b).length
   · have:a<b:=by
      apply Nat.lt_of_not_le
      intro h
      have:=dD h
      omega
     rw[if_pos q2,if_neg o!,if_pos this]
   · have:b<a:=by
      apply Nat.lt_of_not_le
      intro h
      have:=dD h
      omega
     rw[if_neg q2,if_neg o!,if_neg o!]
theorem Uy:∀(k:Nat) (L:List Nat),L.length≤9*k→jy L→bN (Qz k L)=bJ L∧bS (Qz k L)
 | 0,L,h,_=>by
  have:L=[]:=List.length_eq_zero_iff.1 o!
  subst this
  exact ⟨rfl,bS.nil⟩
 | k+1,L,h,hd=>by
  rw[Qz]
  by_cases q:L.length=0
  · rw[if_pos q]
    have:L=[]:=List.length_eq_zero_iff.1 q
    subst this
    exact ⟨rfl,bS.nil⟩
  · rw[if_neg q]
    obtain ⟨i1,i2⟩:=Uy k (L.take (L.length - 9)) (by rw[List.length_take];omega) (hd.take _)
    have hl:=pC (hd.drop (L.length - 9))
    have e:L=L.take (L.length - 9)++L.drop (L.length - 9):=(List.take_append_drop _ _).symm
    have hlen:(L.drop (L.length - 9)).length≤9:=by rw[List.length_drop];omega
    refine ⟨?_,bS.cons ?_ i2⟩
    · rw[bN,i1]
      conv=>rhs;rw[e,Eb]
      by_cases h9:9≤L.length
      · rw[show (L.drop (L.length - 9)).length=9 by rw[List.length_drop];omega,Nat.mul_comm]
        omega
      · rw[show L.length - 9=0 by omega,List.take_zero]
        simp [bJ]
    · refine Nat.lt_of_lt_of_le hl ?_
      have:=Nat.pow_le_pow_right (n:=10) (by decide) hlen
      omega
theorem adv {L:List Nat} (hd:jy L):bR (Qz L.length L)=nW (bJ L):=by
 obtain ⟨h1,h2⟩:=Uy L.length L o! hd
 rw[tX h2,h1]
end Go.Proofs.aF
