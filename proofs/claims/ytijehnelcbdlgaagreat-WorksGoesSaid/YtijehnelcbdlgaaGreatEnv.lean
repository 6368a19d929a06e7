import Derived.Test.YtijehnelcbdlgaaGreatProg
import Derived.ProofKit
import Derived.Test.YtijehnelcbdlgaaGreatA5
import Derived.Test.YtijehnelcbdlgaaGreatA4
namespace Go.Proofs.aM
open Go.Proofs Ab
noncomputable def env:Env:={P:=Tryz.prog,G:=0,HF:=fun _=>none,zC:=fun _=>none}
def ajD (a:List AV) (h:az):Option (AV×az):=match a with | []=>some (.bool true,h) | _=>none
noncomputable def M0:Fa.CD:=fun f a h=>bif Nat.beq f 7 then ajD a h else bif Nat.beq f 133 then IY 134 a h else none
noncomputable abbrev cA (d:Nat):b8:=kG env M0 d
theorem bu (b : Bool) : b = true ∨ b = false := Bool.eq_false_or_eq_true b
theorem jv {p : Prop} [Decidable p] (h : decide p = true) : p := of_decide_eq_true h
theorem pK {p : Prop} [Decidable p] (h : decide p = false) : ¬ p := of_decide_eq_false h
theorem eV {p : Prop} [Decidable p] (h : p) : decide p = true := decide_eq_true h
theorem fL {p : Prop} [Decidable p] (h : ¬ p) : decide p = false := decide_eq_false h
theorem jR (n : Nat) : n ≤ n := Nat.le_refl n
abbrev aL : AV := AV.undef
theorem ao {α : Type _} (a b : α) : cond true a b = a := rfl
theorem ai {α : Type _} (a b : α) : cond false a b = b := rfl
end Go.Proofs.aM
namespace Go.Proofs.aM
open Go.Proofs Ab
set_option maxRecDepth 100000
set_option maxHeartbeats 2000000
section
open Go.Shelf Go.RowKit Go.Sort
def Gr:Go.Shelf.Ren:=⟨fun | 6=>133 | 15=>161 | 14=>160 | 28=>184 | 29=>185 | 20=>176 | 21=>177 | 22=>178 | 23=>179 | 24=>180 | 25=>181 | 26=>182 | 27=>183 | 46=>195 | 47=>196 | 48=>197 | 49=>198 | 50=>199 | 57=>202 | n=>n,fun | 22=>43 | 24=>52 | 25=>198 | 3=>3 | 39=>180 | 0=>0 | 53=>253 | 55=>255 | 4=>4 | 46=>247 | 45=>246 | 50=>213 | 5=>5 | 9=>9 | 66=>262 | 70=>266 | 76=>269 | 77=>270 | n=>n,fun | n=>n⟩
theorem Wr:Go.Proofs.SlLaysF0.n6 Tryz.prog Gr:={
 mixed:=by kernel_rfl
 f6:=⟨Tryz.f133.name,by decide,Tryz.func133.trans (congrArg some (by kernel_rfl))⟩
 f14:=⟨Tryz.f160.name,by decide,Tryz.func160.trans (congrArg some (by kernel_rfl))⟩
 f15:=Tryz.func161.trans (congrArg some (by kernel_rfl))
 f20:=⟨Tryz.f176.name,by decide,Tryz.func176.trans (congrArg some (by kernel_rfl))⟩
 f21:=⟨Tryz.f177.name,by decide,Tryz.func177.trans (congrArg some (by kernel_rfl))⟩
 f22:=⟨Tryz.f178.name,by decide,Tryz.func178.trans (congrArg some (by kernel_rfl))⟩
 f23:=⟨Tryz.f179.name,by decide,Tryz.func179.trans (congrArg some (by kernel_rfl))⟩
 f24:=⟨Tryz.f180.name,by decide,Tryz.func180.trans (congrArg some (by kernel_rfl))⟩
 f25:=⟨Tryz.f181.name,by decide,Tryz.func181.trans (congrArg some (by kernel_rfl))⟩
 f26:=⟨Tryz.f182.name,by decide,Tryz.func182.trans (congrArg some (by kernel_rfl))⟩
 f27:=⟨Tryz.f183.name,by decide,Tryz.func183.trans (congrArg some (by kernel_rfl))⟩
 f28:=Tryz.func184.trans (congrArg some (by kernel_rfl))
 f29:=Tryz.func185.trans (congrArg some (by kernel_rfl))
 f46:=⟨Tryz.f195.name,by decide,Tryz.func195.trans (congrArg some (by kernel_rfl))⟩
 f47:=Tryz.func196.trans (congrArg some (by kernel_rfl))
 f48:=Tryz.func197.trans (congrArg some (by kernel_rfl))
 f49:=⟨Tryz.f198.name,by decide,Tryz.func198.trans (congrArg some (by kernel_rfl))⟩
 f50:=⟨Tryz.f199.name,by decide,Tryz.func199.trans (congrArg some (by kernel_rfl))⟩
 f57:=⟨Tryz.f202.name,by decide,Tryz.func202.trans (congrArg some (by kernel_rfl))⟩
 t0:=Tryz.underlying0
 a0:=Tryz.isAgg0
 z0:=Tryz.sizeOf0
 v0:=Tryz.zeroValue0
 t3:=Tryz.underlying3
 a3:=Tryz.isAgg3
 z3:=Tryz.sizeOf3
 v3:=Tryz.zeroValue3
 t4:=Tryz.underlying4
 a4:=Tryz.isAgg4
 z4:=Tryz.sizeOf4
 v4:=Tryz.zeroValue4
 t5:=Tryz.underlying5
 a5:=Tryz.isAgg5
 z5:=Tryz.sizeOf5
 v5:=Tryz.zeroValue5
 t9:=Tryz.underlying9
 a9:=Tryz.isAgg9
 z9:=Tryz.sizeOf9
 v9:=Tryz.zeroValue9
 t22:=Tryz.underlying43
 a22:=Tryz.isAgg43
 z22:=Tryz.sizeOf43
 v22:=Tryz.zeroValue43
 t25:=Tryz.underlying198
 a25:=Tryz.isAgg198
 z25:=Tryz.sizeOf198
 v25:=Tryz.zeroValue198
 t39:=Tryz.underlying180
 a39:=Tryz.isAgg180
 z39:=Tryz.sizeOf180
 v39:=Tryz.zeroValue180
 t45:=Tryz.underlying246
 a45:=Tryz.isAgg246
 z45:=Tryz.sizeOf246
 v45:=Tryz.zeroValue246
 t46:=Tryz.underlying247
 a46:=Tryz.isAgg247
 z46:=Tryz.sizeOf247
 v46:=Tryz.zeroValue247
 t50:=Tryz.underlying213
 a50:=Tryz.isAgg213
 z50:=Tryz.sizeOf213
 v50:=Tryz.zeroValue213
 t53:=Tryz.underlying253
 a53:=Tryz.isAgg253
 z53:=Tryz.sizeOf253
 v53:=Tryz.zeroValue253
 t55:=Tryz.underlying255
 a55:=Tryz.isAgg255
 z55:=Tryz.sizeOf255
 v55:=Tryz.zeroValue255
 t66:=Tryz.underlying262
 a66:=Tryz.isAgg262
 z66:=Tryz.sizeOf262
 v66:=Tryz.zeroValue262
 t70:=Tryz.underlying266
 a70:=Tryz.isAgg266
 z70:=Tryz.sizeOf266
 v70:=Tryz.zeroValue266
 t76:=Tryz.underlying269
 a76:=Tryz.isAgg269
 z76:=Tryz.sizeOf269
 v76:=Tryz.zeroValue269
 t77:=Tryz.underlying270
 a77:=Tryz.isAgg270
 z77:=Tryz.sizeOf270
 v77:=Tryz.zeroValue270}
theorem abq (x y:Pz) (W:World):Calls Tryz.prog 134 #[.agg #[.int .i64 x.lo,.int .i64 x.hi],.agg #[.int .i64 y.lo,.int .i64 y.hi]] W fun e w'=>e= .returned (.int .i64 (x.lo - y.lo))∧∃q os',w'=grow (W.drewN q) os':=by
 have hw:IntKind.i64.wrap (x.lo - y.lo)=x.lo - y.lo:=wrap_i64 (by have:=x.ok;have:=y.ok;omega) (by have:=x.ok;have:=y.ok;omega)
 go_enter Tryz.func134,Tryz.ntmps134
 go_wp2
 go_ret
 exact ⟨rfl,0,_,by rw[alloc_eq_grow,alloc_eq_grow,grow_grow];rfl⟩
theorem Yy:∀args w,(callFunc 133 args).run Tryz.prog w= .ok (.enter 133 args) w:=enters_of Tryz.func133 (by kernel_rfl) rfl
theorem Yz:∀args w,(callFunc 134 args).run Tryz.prog w= .ok (.enter 134 args) w:=enters_of Tryz.func134 (by kernel_rfl) rfl
theorem af3:Wq Tryz.prog 133 134 where
 nothing p cap fv w:=AnyF.slices_SortFunc_none (P:=Tryz.prog) (ρ:=Gr) {Wr with} p cap fv w
 row fB off cap d w hH hblk NA:=AnyQ.slices_SortFunc_eq Wr 2 Tryz.isAgg52 Tryz.sizeOf52 Bm (fun _=>rfl) (fun x v hv=>by simp [Bm] at hv;rcases hv with rfl | rfl<;>rfl) Ai arp 134 #[] fB off cap d w Yz (fun _ _ _ _ x y=>abq x y _) hH hblk (by omega)
end
end Go.Proofs.aM
