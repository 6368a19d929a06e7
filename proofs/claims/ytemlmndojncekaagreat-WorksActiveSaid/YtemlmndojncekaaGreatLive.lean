import Derived.Test.YtemlmndojncekaaGreatEnv
import Derived.Test.YtemlmndojncekaaGreatA6
import Derived.Test.YtemlmndojncekaaGreatA7
namespace Go.Proofs.aQ
open Go.Proofs Ab
theorem YR:(Tryz.prog.funcs.toList.all fun fn=> !(fn.name== "runtime.NumGoroutine"))=true:=by kernel_rfl
theorem Vt {α:Type} {b:Bool} {x y:Option α} {r:α} (h:(bif b then x else y)=some r):(b=true∧x=some r)∨(b=false∧y=some r):=by
 cases b
 · exact .inr ⟨rfl,h⟩
 · exact .inl ⟨rfl,h⟩
theorem YS:me env where
 ext:=fun f e h=>by cases h
 j5:=fun f g h=>by cases h
 names:=fun f fn h e=>by
  have hm:fn∈Tryz.prog.funcs.toList:=by
   have h:Tryz.prog.funcs[f]? =some fn:=h
   rw[←Array.getElem?_toList] at h
   exact List.mem_of_getElem? h
  have:=List.all_eq_true.1 YR fn hm
  rw[e] at this
  simp at this
 mixed:=by kernel_rfl
noncomputable def Og (o:lV):Bool:=match o with
 | .ret (.bool b) _=>b
 | _=>false
theorem Oh {o:lV} (h:Og o=true):∃h',o= .ret (.bool true) h':=by
 cases o with
 | ret v h'=>cases v with
   | bool b=>exact ⟨h',by rw[show b=true from h]⟩
   | _=>cases h
 | panic v h'=>cases h
 | fail _ _=>cases h
set_option maxRecDepth 100000 in
theorem runs:Og (Fa.DQ env 60 1000000 (.fn 5) [] (nj 0 []))=true:=by kernel_rfl
theorem Vu:∃h',m_ env 5 [] (nj 0 []) (.bool true) h':=by
 obtain ⟨h',e⟩:=Oh runs
 exact ⟨h',(Nv YS 1000000 59 (DL YS 1000000 59)).1 5 [] (nj 0 []) (.bool true) h' (Fa.Gk e)⟩
theorem ajk:Fa.Lb env M0:=fun f args h v h' e=>by
 rcases Vt e with ⟨h1,h2⟩ | ⟨_,h2⟩
 · obtain rfl:=Nat.eq_of_beq_eq_true h1
   cases args with
   | nil=>
     cases h2
     obtain ⟨h1,r⟩:=Vu
     exact m_.closed (E:=env) r rfl rfl h
   | cons a l=>cases h2
 · cases h2
end Go.Proofs.aQ
