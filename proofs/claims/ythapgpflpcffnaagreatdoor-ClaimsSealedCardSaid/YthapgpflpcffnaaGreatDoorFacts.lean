import Derived.Test.YthapgpflpcffnaaGreatDoorRows
import Derived.ProofKit
namespace Go.Proofs.YthapgpflpcffnaaGreatDoor
section
set_option maxRecDepth 100000
theorem k1:(Rows.claimsSealedRow.wf (Go.OpenSpec.ofChange Rows.claimsSealedSpec))=true:=by kernel_rfl
theorem k2:(laidOutB Tryz.prog)=true:=by kernel_rfl
theorem k3:(mapsRowed Tryz.prog)=true:=by kernel_rfl
theorem k4:(Tryz.f3.params.all (Tryz.prog.readableRec ·))=true:=by kernel_rfl
theorem k5:(Go.namedTie Tryz.prog Rows.claimsSealedRow.named Rows.claimsSealedSpec.vars)=true:=by kernel_rfl
theorem k6:((Rows.claimsSealedRow.stops== []))=true:=by kernel_rfl
theorem k7:((Tryz.prog.stops== []))=true:=by kernel_rfl
theorem k8:((Rows.claimsSealedRow.knobs== []))=true:=by kernel_rfl
theorem k9:((Tryz.prog.stopKnobs== []))=true:=by kernel_rfl
theorem Uu:((Rows.claimsSealedRow.inPlace==Tryz.prog.inPlace 3))=true:=by kernel_rfl
theorem QZ:((Rows.claimsSealedRow.unfollowed==Tryz.prog.unfollowed 3))=true:=by kernel_rfl
theorem Uv:((Rows.claimsSealedRow.recurses==Tryz.prog.recurses 3))=true:=by kernel_rfl
theorem Uw:((Rows.claimsSealedRow.named==Tryz.prog.varsNamed 3))=true:=by kernel_rfl
theorem DN:((Rows.claimsSealedRow.maps==(Tryz.f3.params.toList++Rows.claimsSealedSpec.plain.varTypes Tryz.prog).any (Tryz.prog.mapsRec ·)))=true:=by kernel_rfl
theorem Yv:((Rows.claimsSealedRow.ifaces==(Tryz.f3.params.toList++Rows.claimsSealedSpec.plain.varTypes Tryz.prog).any (Tryz.prog.ifacesRec ·)))=true:=by kernel_rfl
theorem Yw:((Rows.claimsSealedRow.mapsOut==Tryz.prog.mapsAmong Tryz.f3.resultTypes.toList))=true:=by kernel_rfl
theorem Yx:((Rows.claimsSealedRow.loops==(Tryz.f3.params.toList++Rows.claimsSealedSpec.plain.varTypes Tryz.prog).any (Tryz.prog.loopsFrom ·)))=true:=by kernel_rfl
theorem Yy:((Rows.claimsSealedRow.wideKeys==(Tryz.f3.params.toList++Rows.claimsSealedSpec.plain.varTypes Tryz.prog++Tryz.f3.resultTypes.toList).any (Tryz.prog.wideKeysFrom ·)))=true:=by kernel_rfl
theorem Yz:(Rows.claimsSealedSpec.vars.all (Tryz.prog.varReadable ·))=true:=by kernel_rfl
theorem YA:(Tryz.f3.resultTypes.all (fun t=>Tryz.prog.readableRec t&&decide (t<Tryz.prog.types.size)))=true:=by kernel_rfl
theorem YB:((Rows.claimsSealedRow.ifacesOut==Tryz.f3.resultTypes.toList.any (Tryz.prog.ifacesRec ·)))=true:=by kernel_rfl
theorem YC:((Rows.claimsSealedRow.loopsOut==Tryz.f3.resultTypes.toList.any (Tryz.prog.loopsFrom ·)))=true:=by kernel_rfl
theorem YD:((Rows.claimsSealedRow.plainKeys==Tryz.prog.plainKeys))=true:=by kernel_rfl
theorem YE:(Rows.claimsSealedRow.shortTexts.isNone)=true:=by kernel_rfl
theorem YF:(Tryz.prog.stopsHeard)=true:=by kernel_rfl
theorem YG:(Tryz.prog.mayEnter)=true:=by kernel_rfl
theorem YH:((Rows.claimsSealedRow.lifted==Tryz.prog.liftsFinal))=true:=by kernel_rfl
theorem YI:((Tryz.prog.make==some Rows.claimsSealedRow.make))=true:=by kernel_rfl
theorem YJ:((Rows.claimsSealedRow.kinds==(if Rows.claimsSealedRow.domain.isEmpty then [] else Tryz.f3.params.toList.map fun t=>match Tryz.prog.underlying t with | some (.int k)=>some k | _=>none)))=true:=by kernel_rfl
theorem YK:((Rows.claimsSealedRow.pinned==Rows.claimsSealedRow.pinnedBy))=true:=by kernel_rfl
theorem H7:((Rows.claimsSealedRow.veiled==(Tryz.f3.params.toList++Rows.claimsSealedSpec.plain.varTypes Tryz.prog++Tryz.f3.resultTypes.toList).any (Tryz.prog.veiledRec ·)))=true:=by kernel_rfl
theorem YL:(Rows.claimsSealedRow.veiledFits Tryz.prog Tryz.f3.params.toList (Tryz.f3.params.toList++Rows.claimsSealedSpec.plain.varTypes Tryz.prog++Tryz.f3.resultTypes.toList))=true:=by kernel_rfl
theorem both {a b:Bool} (h:a=true) (g:b=true):(a&&b)=true:=by rw[h,g];rfl
theorem closed:Go.joinedFacts Tryz.prog 3 Tryz.f3 Rows.claimsSealedSpec Rows.claimsSealedRow=true:=(both (both (both (both (both (both (both (both (both (both (both (both (both (both (both (both (both (both (both (both (both (both (both (both (both (both (both (both (both (both (both k1 k2) k3) k4) k5) k6) k7) k8) k9) Uu) QZ) Uv) Uw) DN) Yv) Yw) Yx) Yy) Yz) YA) YB) YC) YD) YE) YF) YG) YH) YI) YJ) YK) H7) YL)
theorem Oe:Tryz.prog.funcNamed Rows.claimsSealedRow.func=some 3:=by kernel_rfl
end
end Go.Proofs.YthapgpflpcffnaaGreatDoor
