import Derived.Test.YtogcojohajankaaGreatEnv
import Derived.Test.YtogcojohajankaaGreatA6
import Derived.Test.YtogcojohajankaaGreatA7
namespace Go.Proofs.aJ
open Go.Proofs Ab
theorem W5:(Tryz.prog.funcs.toList.all fun fn=> !(fn.name== "runtime.NumGoroutine"))=true:=by kernel_rfl
theorem TV {α:Type} {b:Bool} {x y:Option α} {r:α} (h:(bif b then x else y)=some r):(b=true∧x=some r)∨(b=false∧y=some r):=by
 cases b
 · exact .inr ⟨rfl,h⟩
 · exact .inl ⟨rfl,h⟩
theorem W6:l6 env where
 ext:=fun f e h=>by cases h
 jS:=fun f g h=>by cases h
 names:=fun f fn h e=>by
  have hm:fn∈Tryz.prog.funcs.toList:=by
   have h:Tryz.prog.funcs[f]? =some fn:=h
   rw[←Array.getElem?_toList] at h
   exact List.mem_of_getElem? h
  have:=List.all_eq_true.1 W5 fn hm
  rw[e] at this
  simp at this
 mixed:=by kernel_rfl
noncomputable def Ah (o:ko):Bool:=match o with
 | .ret (.bool b) _=>b
 | _=>false
theorem C4 {o:ko} (h:Ah o=true):∃h',o= .ret (.bool true) h':=by
 cases o with
 | ret v h'=>cases v with
   | bool b=>exact ⟨h',by rw[show b=true from h]⟩
   | _=>cases h
 | panic v h'=>cases h
 | fail _ _=>cases h
set_option maxRecDepth 100000 in
theorem runs:Ah (Fa.C1 env 60 1000000 (.fn 5) [] (m3 0 []))=true:=by kernel_rfl
theorem TW:∃h',mV env 5 [] (m3 0 []) (.bool true) h':=by
 obtain ⟨h',e⟩:=C4 runs
 exact ⟨h',(ME W6 1000000 59 (CW W6 1000000 59)).1 5 [] (m3 0 []) (.bool true) h' (Fa.Fq e)⟩
theorem ahx:Fa.Kt env M0:=fun f args h v h' e=>by
 rcases TV e with ⟨h1,h2⟩ | ⟨_,h2⟩
 · obtain rfl:=Nat.eq_of_beq_eq_true h1
   cases args with
   | nil=>
     cases h2
     obtain ⟨h1,r⟩:=TW
     exact mV.closed (E:=env) r rfl rfl h
   | cons a l=>cases h2
 · cases h2
end Go.Proofs.aJ
