import Derived.Test.YtjohpcpopggbkaaGreatRows
import Derived.ProofKit
namespace Go.Proofs.YtjohpcpopggbkaaGreat
section
set_option maxRecDepth 100000
theorem k1:(Rows.worksSafeRow.wf (Go.OpenSpec.ofChange Rows.worksSafeSpec))=true:=by kernel_rfl
theorem k2:(laidOutB Tryz.prog)=true:=by kernel_rfl
theorem k3:(mapsRowed Tryz.prog)=true:=by kernel_rfl
theorem k4:(Tryz.f3.params.all (Tryz.prog.readableRec ·))=true:=by kernel_rfl
theorem k5:(Go.namedTie Tryz.prog Rows.worksSafeRow.named Rows.worksSafeSpec.vars)=true:=by kernel_rfl
theorem k6:((Rows.worksSafeRow.stops== []))=true:=by kernel_rfl
theorem k7:((Tryz.prog.stops== []))=true:=by kernel_rfl
theorem k8:((Rows.worksSafeRow.knobs== []))=true:=by kernel_rfl
theorem k9:((Tryz.prog.stopKnobs== []))=true:=by kernel_rfl
theorem n9:((Rows.worksSafeRow.inPlace==Tryz.prog.inPlace 3))=true:=by kernel_rfl
theorem O5:((Rows.worksSafeRow.unfollowed==Tryz.prog.unfollowed 3))=true:=by kernel_rfl
theorem BY:((Rows.worksSafeRow.recurses==Tryz.prog.recurses 3))=true:=by kernel_rfl
theorem RP:((Rows.worksSafeRow.named==Tryz.prog.varsNamed 3))=true:=by kernel_rfl
theorem GS:((Rows.worksSafeRow.maps==(Tryz.f3.params.toList++Rows.worksSafeSpec.plain.varTypes Tryz.prog).any (Tryz.prog.mapsRec ·)))=true:=by kernel_rfl
theorem Qh:((Rows.worksSafeRow.ifaces==(Tryz.f3.params.toList++Rows.worksSafeSpec.plain.varTypes Tryz.prog).any (Tryz.prog.ifacesRec ·)))=true:=by kernel_rfl
theorem O6:((Rows.worksSafeRow.mapsOut==Tryz.prog.mapsAmong Tryz.f3.resultTypes.toList))=true:=by kernel_rfl
theorem Vn:((Rows.worksSafeRow.loops==(Tryz.f3.params.toList++Rows.worksSafeSpec.plain.varTypes Tryz.prog).any (Tryz.prog.loopsFrom ·)))=true:=by kernel_rfl
theorem Qi:((Rows.worksSafeRow.wideKeys==(Tryz.f3.params.toList++Rows.worksSafeSpec.plain.varTypes Tryz.prog++Tryz.f3.resultTypes.toList).any (Tryz.prog.wideKeysFrom ·)))=true:=by kernel_rfl
theorem TW:(Rows.worksSafeSpec.vars.all (Tryz.prog.varReadable ·))=true:=by kernel_rfl
theorem YR:(Tryz.f3.resultTypes.all (fun t=>Tryz.prog.readableRec t&&decide (t<Tryz.prog.types.size)))=true:=by kernel_rfl
theorem YS:((Rows.worksSafeRow.ifacesOut==Tryz.f3.resultTypes.toList.any (Tryz.prog.ifacesRec ·)))=true:=by kernel_rfl
theorem YT:((Rows.worksSafeRow.loopsOut==Tryz.f3.resultTypes.toList.any (Tryz.prog.loopsFrom ·)))=true:=by kernel_rfl
theorem TX:((Rows.worksSafeRow.plainKeys==Tryz.prog.plainKeys))=true:=by kernel_rfl
theorem TY:(Rows.worksSafeRow.shortTexts.isNone)=true:=by kernel_rfl
theorem YU:(Tryz.prog.stopsHeard)=true:=by kernel_rfl
theorem YV:(Tryz.prog.mayEnter)=true:=by kernel_rfl
theorem YW:((Rows.worksSafeRow.lifted==Tryz.prog.liftsFinal))=true:=by kernel_rfl
theorem TZ:((Tryz.prog.make==some Rows.worksSafeRow.make))=true:=by kernel_rfl
theorem YX:((Rows.worksSafeRow.kinds==(if Rows.worksSafeRow.domain.isEmpty then [] else Tryz.f3.params.toList.map fun t=>match Tryz.prog.underlying t with | some (.int k)=>some k | _=>none)))=true:=by kernel_rfl
theorem T0:((Rows.worksSafeRow.pinned==Rows.worksSafeRow.pinnedBy))=true:=by kernel_rfl
theorem T1:((Rows.worksSafeRow.veiled==(Tryz.f3.params.toList++Rows.worksSafeSpec.plain.varTypes Tryz.prog++Tryz.f3.resultTypes.toList).any (Tryz.prog.veiledRec ·)))=true:=by kernel_rfl
theorem Vo:(Rows.worksSafeRow.veiledFits Tryz.prog Tryz.f3.params.toList (Tryz.f3.params.toList++Rows.worksSafeSpec.plain.varTypes Tryz.prog++Tryz.f3.resultTypes.toList))=true:=by kernel_rfl
theorem both {a b:Bool} (h:a=true) (g:b=true):(a&&b)=true:=by rw[h,g];rfl
theorem closed:Go.joinedFacts Tryz.prog 3 Tryz.f3 Rows.worksSafeSpec Rows.worksSafeRow=true:=(both (both (both (both (both (both (both (both (both (both (both (both (both (both (both (both (both (both (both (both (both (both (both (both (both (both (both (both (both (both (both k1 k2) k3) k4) k5) k6) k7) k8) k9) n9) O5) BY) RP) GS) Qh) O6) Vn) Qi) TW) YR) YS) YT) TX) TY) YU) YV) YW) TZ) YX) T0) T1) Vo)
theorem O7:Tryz.prog.funcNamed Rows.worksSafeRow.func=some 3:=by kernel_rfl
end
end Go.Proofs.YtjohpcpopggbkaaGreat
