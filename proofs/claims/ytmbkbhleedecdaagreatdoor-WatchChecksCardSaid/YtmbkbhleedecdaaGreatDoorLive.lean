import Derived.Test.YtmbkbhleedecdaaGreatDoorEnv
import Derived.Test.YtmbkbhleedecdaaGreatDoorA6
import Derived.Test.YtmbkbhleedecdaaGreatDoorA7
import Derived.Test.YtmbkbhleedecdaaGreatDoorA8
namespace Go.Proofs.aM
open Go.Proofs Ab
theorem Qh:(Tryz.prog.funcs.toList.all fun fn=> !(fn.name== "runtime.NumGoroutine"))=true:=by kernel_rfl
theorem uu {α:Type} {b:Bool} {x y:Option α} {r:α} (h:(bif b then x else y)=some r):(b=true∧x=some r)∨(b=false∧y=some r):=by
 cases b
 · exact .inr ⟨rfl,h⟩
 · exact .inl ⟨rfl,h⟩
theorem Qi:kn env where
 ext:=fun f e h=>by cases h
 ir:=fun f g h=>by cases h
 names:=fun f fn h e=>by
  have hm:fn∈Tryz.prog.funcs.toList:=by
   have h:Tryz.prog.funcs[f]? =some fn:=h
   rw[←Array.getElem?_toList] at h
   exact List.mem_of_getElem? h
  have:=List.all_eq_true.1 Qh fn hm
  rw[e] at this
  simp at this
 mixed:=by kernel_rfl
theorem ubt:∃fs,env.P.underlying 61=some (.struct fs):=⟨_,Tryz.underlying61⟩
noncomputable def wN (o:iQ):Bool:=match o with
 | .ret (.bool b) _=>b
 | _=>false
theorem zx {o:iQ} (h:wN o=true):∃h',o= .ret (.bool true) h':=by
 cases o with
 | ret v h'=>cases v with
   | bool b=>exact ⟨h',by rw[show b=true from h]⟩
   | _=>cases h
 | panic v h'=>cases h
 | fail _ _=>cases h
def pT:Ab.SH:=⟨1,.u64,n6,162⟩
set_option maxRecDepth 100000 in
theorem runs:wN (Fa.zu env 60 1000000 (.fn 5) [] (j8 4 []))=true:=by kernel_rfl
theorem Nn:∃h',jZ env 5 [] (j8 4 []) (.bool true) h':=by
 obtain ⟨h',e⟩:=zx runs
 exact ⟨h',(Hh Qi 1000000 59 (zp Qi 1000000 59)).1 5 [] (j8 4 []) (.bool true) h' (Fa.Bm e)⟩
theorem aaf:Fa.Fs env M0:=fun f args h v h' e=>by
 rcases uu e with ⟨h1,h2⟩ | ⟨_,h2⟩
 · obtain rfl:=Nat.eq_of_beq_eq_true h1
   cases args with
   | nil=>
     cases h2
     obtain ⟨h1,r⟩:=Nn
     exact jZ.closed (E:=env) r rfl rfl h
   | cons a l=>cases h2
 · rcases uu h2 with ⟨h1,h2⟩ | ⟨_,h2⟩
   · obtain rfl:=Nat.eq_of_beq_eq_true h1
     exact P_ (E:=env) Qd Uj args h v h' h2
   · rcases uu h2 with ⟨h1,h2⟩ | ⟨_,h2⟩
     · obtain rfl:=Nat.eq_of_beq_eq_true h1
       obtain ⟨fs,hu⟩:=ubt;exact Nj (E:=env) hu rfl Qe Qg args h v h' h2
     · rcases uu h2 with ⟨h1,h2⟩ | ⟨_,h2⟩
       · obtain rfl:=Nat.eq_of_beq_eq_true h1
         exact J9 (E:=env) Qf Nl args h v h' h2
       · cases h2
end Go.Proofs.aM
