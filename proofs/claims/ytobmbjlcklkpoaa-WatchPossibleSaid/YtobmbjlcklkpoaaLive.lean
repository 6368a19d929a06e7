import Derived.Test.YtobmbjlcklkpoaaEnv
import Derived.Test.YtobmbjlcklkpoaaA6
import Derived.Test.YtobmbjlcklkpoaaA7
namespace Go.Proofs.aJ
open Go.Proofs Ab
theorem RE:(Try.prog.funcs.toList.all fun fn=> !(fn.name== "runtime.NumGoroutine"))=true:=by kernel_rfl
theorem D4 {α:Type} {b:Bool} {x y:Option α} {r:α} (h:(bif b then x else y)=some r):(b=true∧x=some r)∨(b=false∧y=some r):=by
 cases b
 · exact .inr ⟨rfl,h⟩
 · exact .inl ⟨rfl,h⟩
theorem RG:kK env where
 ext:=fun f e h=>by cases h
 iW:=fun f g h=>by cases h
 names:=fun f fn h e=>by
  have hm:fn∈Try.prog.funcs.toList:=by
   have h:Try.prog.funcs[f]? =some fn:=h
   rw[←Array.getElem?_toList] at h
   exact List.mem_of_getElem? h
  have:=List.all_eq_true.1 RE fn hm
  rw[e] at this
  simp at this
 mixed:=by kernel_rfl
noncomputable def wK (o:ju):Bool:=match o with
 | .ret (.bool b) _=>b
 | _=>false
theorem zv {o:ju} (h:wK o=true):∃h',o= .ret (.bool true) h':=by
 cases o with
 | ret v h'=>cases v with
   | bool b=>exact ⟨h',by rw[show b=true from h]⟩
   | _=>cases h
 | panic v h'=>cases h
 | fail _ _=>cases h
set_option maxRecDepth 100000 in
theorem runs:wK (Fa.zr env 60 1000000 (.fn 5) [] (lW 0 []))=true:=by kernel_rfl
theorem Ow:∃h',lD env 5 [] (lW 0 []) (.bool true) h':=by
 obtain ⟨h',e⟩:=zv runs
 exact ⟨h',(H0 RG 1000000 59 (zn RG 1000000 59)).1 5 [] (lW 0 []) (.bool true) h' (Fa.Bu e)⟩
theorem abN:Fa.FT env M0:=fun f args h v h' e=>by
 rcases D4 e with ⟨h1,h2⟩ | ⟨_,h2⟩
 · obtain rfl:=Nat.eq_of_beq_eq_true h1
   cases args with
   | nil=>
     cases h2
     obtain ⟨h1,r⟩:=Ow
     exact lD.closed (E:=env) r rfl rfl h
   | cons a l=>cases h2
 · rcases D4 h2 with ⟨h1,h2⟩ | ⟨_,h2⟩
   · obtain rfl:=Nat.eq_of_beq_eq_true h1
     exact Rx (E:=env) RB VU args h v h' h2
   · cases h2
end Go.Proofs.aJ
