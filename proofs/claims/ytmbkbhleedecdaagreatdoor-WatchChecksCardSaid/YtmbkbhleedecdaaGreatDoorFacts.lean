import Derived.Test.YtmbkbhleedecdaaGreatDoorRows
import Derived.ProofKit
namespace Go.Proofs.YtmbkbhleedecdaaGreatDoor
section
set_option maxRecDepth 100000
theorem k1:(Rows.watchChecksRow.wf (Go.OpenSpec.ofChange Rows.watchChecksSpec))=true:=by kernel_rfl
theorem k2:(laidOutB Tryz.prog)=true:=by kernel_rfl
theorem k3:(mapsRowed Tryz.prog)=true:=by kernel_rfl
theorem k4:(Tryz.f3.params.all (Tryz.prog.readableRec ·))=true:=by kernel_rfl
theorem k5:(Go.namedTie Tryz.prog Rows.watchChecksRow.named Rows.watchChecksSpec.vars)=true:=by kernel_rfl
theorem k6:((Rows.watchChecksRow.stops== []))=true:=by kernel_rfl
theorem k7:((Tryz.prog.stops== []))=true:=by kernel_rfl
theorem k8:((Rows.watchChecksRow.knobs== []))=true:=by kernel_rfl
theorem k9:((Tryz.prog.stopKnobs== []))=true:=by kernel_rfl
theorem xb:((Rows.watchChecksRow.inPlace==Tryz.prog.inPlace 3))=true:=by kernel_rfl
theorem uv:((Rows.watchChecksRow.unfollowed==Tryz.prog.unfollowed 3))=true:=by kernel_rfl
theorem Jg:((Rows.watchChecksRow.recurses==Tryz.prog.recurses 3))=true:=by kernel_rfl
theorem No:((Rows.watchChecksRow.named==Tryz.prog.varsNamed 3))=true:=by kernel_rfl
theorem Qk:((Rows.watchChecksRow.maps==(Tryz.f3.params.toList++Rows.watchChecksSpec.plain.varTypes Tryz.prog).any (Tryz.prog.mapsRec ·)))=true:=by kernel_rfl
theorem J':((Rows.watchChecksRow.ifaces==(Tryz.f3.params.toList++Rows.watchChecksSpec.plain.varTypes Tryz.prog).any (Tryz.prog.ifacesRec ·)))=true:=by kernel_rfl
theorem Gs:((Rows.watchChecksRow.mapsOut==Tryz.prog.mapsAmong Tryz.f3.resultTypes.toList))=true:=by kernel_rfl
theorem k17:((Rows.watchChecksRow.loops==(Tryz.f3.params.toList++Rows.watchChecksSpec.plain.varTypes Tryz.prog).any (Tryz.prog.loopsFrom ·)))=true:=by kernel_rfl
theorem Ql:((Rows.watchChecksRow.wideKeys==(Tryz.f3.params.toList++Rows.watchChecksSpec.plain.varTypes Tryz.prog++Tryz.f3.resultTypes.toList).any (Tryz.prog.wideKeysFrom ·)))=true:=by kernel_rfl
theorem k19:(Rows.watchChecksSpec.vars.all (Tryz.prog.varReadable ·))=true:=by kernel_rfl
theorem Xn:(Tryz.f3.resultTypes.all (fun t=>Tryz.prog.readableRec t&&decide (t<Tryz.prog.types.size)))=true:=by kernel_rfl
theorem k21:((Rows.watchChecksRow.ifacesOut==Tryz.f3.resultTypes.toList.any (Tryz.prog.ifacesRec ·)))=true:=by kernel_rfl
theorem Xo:((Rows.watchChecksRow.loopsOut==Tryz.f3.resultTypes.toList.any (Tryz.prog.loopsFrom ·)))=true:=by kernel_rfl
theorem Xp:((Rows.watchChecksRow.plainKeys==Tryz.prog.plainKeys))=true:=by kernel_rfl
theorem k24:(Rows.watchChecksRow.shortTexts.isNone)=true:=by kernel_rfl
theorem k25:(Tryz.prog.stopsHeard)=true:=by kernel_rfl
theorem k26:(Tryz.prog.mayEnter)=true:=by kernel_rfl
theorem k27:((Rows.watchChecksRow.lifted==Tryz.prog.liftsFinal))=true:=by kernel_rfl
theorem k28:((Tryz.prog.make==some Rows.watchChecksRow.make))=true:=by kernel_rfl
theorem k29:((Rows.watchChecksRow.kinds==(if Rows.watchChecksRow.domain.isEmpty then [] else Tryz.f3.params.toList.map fun t=>match Tryz.prog.underlying t with | some (.int k)=>some k | _=>none)))=true:=by kernel_rfl
theorem k30:((Rows.watchChecksRow.pinned==Rows.watchChecksRow.pinnedBy))=true:=by kernel_rfl
theorem k31:((Rows.watchChecksRow.veiled==(Tryz.f3.params.toList++Rows.watchChecksSpec.plain.varTypes Tryz.prog++Tryz.f3.resultTypes.toList).any (Tryz.prog.veiledRec ·)))=true:=by kernel_rfl
theorem k32:(Rows.watchChecksRow.veiledFits Tryz.prog Tryz.f3.params.toList (Tryz.f3.params.toList++Rows.watchChecksSpec.plain.varTypes Tryz.prog++Tryz.f3.resultTypes.toList))=true:=by kernel_rfl
theorem both {a b:Bool} (h:a=true) (g:b=true):(a&&b)=true:=by rw[h,g];rfl
theorem closed:Go.joinedFacts Tryz.prog 3 Tryz.f3 Rows.watchChecksSpec Rows.watchChecksRow=true:=(both (both (both (both (both (both (both (both (both (both (both (both (both (both (both (both (both (both (both (both (both (both (both (both (both (both (both (both (both (both (both k1 k2) k3) k4) k5) k6) k7) k8) k9) xb) uv) Jg) No) Qk) J') Gs) k17) Ql) k19) Xn) k21) Xo) Xp) k24) k25) k26) k27) k28) k29) k30) k31) k32)
theorem Xq:Tryz.prog.funcNamed Rows.watchChecksRow.func=some 3:=by kernel_rfl
end
end Go.Proofs.YtmbkbhleedecdaaGreatDoor
