import Derived.Test.YtjohpcpopggbkaaGreatEnv
import Derived.Test.YtjohpcpopggbkaaGreatA6
import Derived.Test.YtjohpcpopggbkaaGreatA7
namespace Go.Proofs.aW
open Go.Proofs Ab
theorem IW:(Tryz.prog.funcs.toList.all fun fn=> !(fn.name== "runtime.NumGoroutine"))=true:=by kernel_rfl
theorem FW {α:Type} {b:Bool} {x y:Option α} {r:α} (h:(bif b then x else y)=some r):(b=true∧x=some r)∨(b=false∧y=some r):=by
 cases b
 · exact .inr ⟨rfl,h⟩
 · exact .inl ⟨rfl,h⟩
theorem IX:iJ env where
 ext:=fun f e h=>by cases h
 gu:=fun f g h=>by cases h
 names:=fun f fn h e=>by
  have hm:fn∈Tryz.prog.funcs.toList:=by
   have h:Tryz.prog.funcs[f]? =some fn:=h
   rw[←Array.getElem?_toList] at h
   exact List.mem_of_getElem? h
  have:=List.all_eq_true.1 IW fn hm
  rw[e] at this
  simp at this
 mixed:=by kernel_rfl
noncomputable def r7 (o:gQ):Bool:=match o with
 | .ret (.bool b) _=>b
 | _=>false
theorem uk {o:gQ} (h:r7 o=true):∃h',o= .ret (.bool true) h':=by
 cases o with
 | ret v h'=>cases v with
   | bool b=>exact ⟨h',by rw[show b=true from h]⟩
   | _=>cases h
 | panic v h'=>cases h
 | fail _ _=>cases h
set_option maxRecDepth 100000 in
theorem runs:r7 (Fa.uh env 60 1000000 (.fn 5) [] (jz 0 []))=true:=by kernel_rfl
theorem FX:∃h',ju env 5 [] (jz 0 []) (.bool true) h':=by
 obtain ⟨h',e⟩:=uk runs
 exact ⟨h',(Bd IX 1000000 59 (ud IX 1000000 59)).1 5 [] (jz 0 []) (.bool true) h' (Fa.we e)⟩
theorem RO:Fa.Ad env M0:=fun f args h v h' e=>by
 rcases FW e with ⟨h1,h2⟩ | ⟨_,h2⟩
 · obtain rfl:=Nat.eq_of_beq_eq_true h1
   cases args with
   | nil=>
     cases h2
     obtain ⟨h1,r⟩:=FX
     exact ju.closed (E:=env) r rfl rfl h
   | cons a l=>cases h2
 · cases h2
end Go.Proofs.aW
