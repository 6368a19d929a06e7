import Derived.Test.YtfllahfbmaafcaaEnv
import Derived.Test.YtfllahfbmaafcaaA6
import Derived.Test.YtfllahfbmaafcaaA7
namespace Go.Proofs.aG
open Go.Proofs Ab
theorem Sb:(Try.prog.funcs.toList.all fun fn=> !(fn.name== "runtime.NumGoroutine"))=true:=by kernel_rfl
theorem Ei {α:Type} {b:Bool} {x y:Option α} {r:α} (h:(bif b then x else y)=some r):(b=true∧x=some r)∨(b=false∧y=some r):=by
 cases b
 · exact .inr ⟨rfl,h⟩
 · exact .inl ⟨rfl,h⟩
theorem Sc:j5 env where
 ext:=fun f e h=>by cases h
 ij:=fun f g h=>by cases h
 names:=fun f fn h e=>by
  have hm:fn∈Try.prog.funcs.toList:=by
   have h:Try.prog.funcs[f]? =some fn:=h
   rw[←Array.getElem?_toList] at h
   exact List.mem_of_getElem? h
  have:=List.all_eq_true.1 Sb fn hm
  rw[e] at this
  simp at this
 mixed:=by kernel_rfl
noncomputable def wJ (o:iQ):Bool:=match o with
 | .ret (.bool b) _=>b
 | _=>false
theorem zI {o:iQ} (h:wJ o=true):∃h',o= .ret (.bool true) h':=by
 cases o with
 | ret v h'=>cases v with
   | bool b=>exact ⟨h',by rw[show b=true from h]⟩
   | _=>cases h
 | panic v h'=>cases h
 | fail _ _=>cases h
set_option maxRecDepth 100000 in
theorem runs:wJ (Fa.zF env 60 1000000 (.fn 8) [] (kW 0 []))=true:=by kernel_rfl
theorem OW:∃h',kD env 8 [] (kW 0 []) (.bool true) h':=by
 obtain ⟨h',e⟩:=zI runs
 exact ⟨h',(H2 Sc 1000000 59 (zB Sc 1000000 59)).1 8 [] (kW 0 []) (.bool true) h' (Fa.BI e)⟩
theorem adn:Fa.Ga env M0:=fun f args h v h' e=>by
 rcases Ei e with ⟨h1,h2⟩ | ⟨_,h2⟩
 · obtain rfl:=Nat.eq_of_beq_eq_true h1
   cases args with
   | nil=>
     cases h2
     obtain ⟨h1,r⟩:=OW
     exact kD.closed (E:=env) r rfl rfl h
   | cons a l=>cases h2
 · rcases Ei h2 with ⟨h1,h2⟩ | ⟨_,h2⟩
   · obtain rfl:=Nat.eq_of_beq_eq_true h1
     exact R6 (E:=env) R' WL args h v h' h2
   · cases h2
end Go.Proofs.aG
