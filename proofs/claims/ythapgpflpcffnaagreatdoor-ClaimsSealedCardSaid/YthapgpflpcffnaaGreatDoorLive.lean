import Derived.Test.YthapgpflpcffnaaGreatDoorEnv
import Derived.Test.YthapgpflpcffnaaGreatDoorW7
import Derived.Test.YthapgpflpcffnaaGreatDoorA6
import Derived.Test.YthapgpflpcffnaaGreatDoorA7
namespace Go.Proofs.aP
open Go.Proofs Ab
theorem Yt:v7 Tryz.prog 166 Extern.BytealgIndexByte.indexByte:=⟨_,Tryz.func166,by kernel_rfl,by kernel_rfl,by kernel_rfl,by kernel_rfl⟩
theorem Yu:v7 Tryz.prog 144 Extern.BytealgCount.count:=⟨_,Tryz.func144,by kernel_rfl,by kernel_rfl,by kernel_rfl,by kernel_rfl⟩
theorem H0:(Tryz.prog.funcs.toList.all fun fn=> !(fn.name== "runtime.NumGoroutine"))=true:=by kernel_rfl
theorem m9 {α:Type} {b:Bool} {x y:Option α} {r:α} (h:(bif b then x else y)=some r):(b=true∧x=some r)∨(b=false∧y=some r):=by
 cases b
 · exact .inr ⟨rfl,h⟩
 · exact .inl ⟨rfl,h⟩
theorem H2:fm env where
 ext:=fun f e h=>by
  rcases m9 h with ⟨h1,h2⟩ | ⟨_,h⟩
  · obtain rfl:=Nat.eq_of_beq_eq_true h1;obtain rfl:=Option.some.inj h2;exact x_ Yt
  rcases m9 h with ⟨h1,h2⟩ | ⟨_,h⟩
  · obtain rfl:=Nat.eq_of_beq_eq_true h1;obtain rfl:=Option.some.inj h2;exact ya Yu
  cases h
 dM:=fun f g h=>by cases h
 names:=fun f fn h e=>by
  have hm:fn∈Tryz.prog.funcs.toList:=by
   have h:Tryz.prog.funcs[f]? =some fn:=h
   rw[←Array.getElem?_toList] at h
   exact List.mem_of_getElem? h
  have:=List.all_eq_true.1 H0 fn hm
  rw[e] at this
  simp at this
 mixed:=by kernel_rfl
noncomputable def oS (o:eg):Bool:=match o with
 | .ret (.bool b) _=>b
 | _=>false
theorem ra {o:eg} (h:oS o=true):∃h',o= .ret (.bool true) h':=by
 cases o with
 | ret v h'=>cases v with
   | bool b=>exact ⟨h',by rw[show b=true from h]⟩
   | _=>cases h
 | panic v h'=>cases h
 | fail _ _=>cases h
def gF:Ab.JX:=⟨1,.u64,eF,236⟩
set_option maxRecDepth 100000 in
theorem runs:oS (Fa.qY env 80 1000000 (.fn 5) [] (fe 8 [gF]))=true:=by kernel_rfl
theorem H4:∃h',eA env 5 [] (fe 8 [gF]) (.bool true) h':=by
 obtain ⟨h',e⟩:=ra runs
 exact ⟨h',(zH H2 1000000 79 (qU H2 1000000 79)).1 5 [] (fe 8 [gF]) (.bool true) h' (Fa.te e)⟩
theorem QY:Fa.yb env M0:=fun f args h v h' e=>by
 rcases m9 e with ⟨h1,h2⟩ | ⟨_,h2⟩
 · obtain rfl:=Nat.eq_of_beq_eq_true h1
   cases args with
   | nil=>
     have h2:(match wc 1 236 eF h with | true=>some (AV.bool true,h) | false=>none)=some (v,h'):=h2
     split at h2
     · rename_i ht
       cases h2
       obtain ⟨h1,r⟩:=H4
       refine eA.Lz (E:=env) (L:=[(1,.cells (aO .u64 eF) 236 true)]) r rfl rfl h fun g o hm=>?_
       obtain ⟨rfl,rfl⟩:g=1∧o= .cells (aO .u64 eF) 236 true:=by simpa using hm
       exact ⟨by decide,⟨_,_,rfl,by decide⟩,EY ht⟩
     · cases h2
   | cons a l=>cases h2
 · rcases m9 h2 with ⟨h1,h2⟩ | ⟨_,h2⟩
   · obtain rfl:=Nat.eq_of_beq_eq_true h1
     exact HW (E:=env) H5 LA args h v h' h2
   · cases h2
end Go.Proofs.aP
