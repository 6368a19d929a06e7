import Derived.Test.YtjpijdaopopeeaaGreatEnv
import Derived.Test.YtjpijdaopopeeaaGreatA6
import Derived.Test.YtjpijdaopopeeaaGreatA7
namespace Go.Proofs.Bench
open Go.Proofs Ab
theorem allNames:(Tryz.prog.funcs.toList.all fun fn=> !(fn.name== "runtime.NumGoroutine"))=true:=by kernel_rfl
theorem cond_some {α:Type} {b:Bool} {x y:Option α} {r:α} (h:(bif b then x else y)=some r):(b=true∧x=some r)∨(b=false∧y=some r):=by
 cases b
 · exact .inr ⟨rfl,h⟩
 · exact .inl ⟨rfl,h⟩
theorem envOK:EnvOK env where
 ext:=fun f e h=>by cases h
 special:=fun f g h=>by cases h
 names:=fun f fn h e=>by
  have hm:fn∈Tryz.prog.funcs.toList:=by
   have h:Tryz.prog.funcs[f]? =some fn:=h
   rw[←Array.getElem?_toList] at h
   exact List.mem_of_getElem? h
  have:=List.all_eq_true.1 allNames fn hm
  rw[e] at this
  simp at this
 mixed:=by kernel_rfl
noncomputable def endsTrue (o:COut):Bool:=match o with
 | .ret (.bool b) _=>b
 | _=>false
theorem endsTrue_of {o:COut} (h:endsTrue o=true):∃h',o= .ret (.bool true) h':=by
 cases o with
 | ret v h'=>cases v with
   | bool b=>exact ⟨h',by rw[show b=true from h]⟩
   | _=>cases h
 | panic v h'=>cases h
 | fail _ _=>cases h
set_option maxRecDepth 100000 in
theorem runs:endsTrue (Fa.callC env 60 1000000 (.fn 5) [] (heapOf 0 []))=true:=by kernel_rfl
theorem lives_ret:∃h',RetOK env 5 [] (heapOf 0 []) (.bool true) h':=by
 obtain ⟨h',e⟩:=endsTrue_of runs
 exact ⟨h',(callN_fn envOK 1000000 59 (callN_sound envOK 1000000 59)).1 5 [] (heapOf 0 []) (.bool true) h' (Fa.callN_of_callC e)⟩
theorem M0_OK:Fa.MemoOK env M0:=fun f args h v h' e=>by
 rcases cond_some e with ⟨h1,h2⟩ | ⟨_,h2⟩
 · obtain rfl:=Nat.eq_of_beq_eq_true h1
   cases args with
   | nil=>
     cases h2
     obtain ⟨h1,r⟩:=lives_ret
     exact RetOK.closed (E:=env) r rfl rfl h
   | cons a l=>cases h2
 · cases h2
end Go.Proofs.Bench
