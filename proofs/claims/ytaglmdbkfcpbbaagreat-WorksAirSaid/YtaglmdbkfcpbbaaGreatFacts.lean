import Derived.Test.YtaglmdbkfcpbbaaGreatRows
import Derived.ProofKit
namespace Go.Proofs.YtaglmdbkfcpbbaaGreat
section
set_option maxRecDepth 100000
theorem k1:(Rows.worksAirRow.wf (Go.OpenSpec.ofChange Rows.worksAirSpec))=true:=by kernel_rfl
theorem k2:(laidOutB Tryz.prog)=true:=by kernel_rfl
theorem k3:(mapsRowed Tryz.prog)=true:=by kernel_rfl
theorem k4:(Tryz.f3.params.all (Tryz.prog.readableRec ·))=true:=by kernel_rfl
theorem k5:(Go.namedTie Tryz.prog Rows.worksAirRow.named Rows.worksAirSpec.vars)=true:=by kernel_rfl
theorem k6:((Rows.worksAirRow.stops== []))=true:=by kernel_rfl
theorem k7:((Tryz.prog.stops== []))=true:=by kernel_rfl
theorem k8:((Rows.worksAirRow.knobs== []))=true:=by kernel_rfl
theorem k9:((Tryz.prog.stopKnobs== []))=true:=by kernel_rfl
theorem jC:((Rows.worksAirRow.inPlace==Tryz.prog.inPlace 3))=true:=by kernel_rfl
theorem NB:((Rows.worksAirRow.unfollowed==Tryz.prog.unfollowed 3))=true:=by kernel_rfl
theorem nj:((Rows.worksAirRow.recurses==Tryz.prog.recurses 3))=true:=by kernel_rfl
theorem P':((Rows.worksAirRow.named==Tryz.prog.varsNamed 3))=true:=by kernel_rfl
theorem ra:((Rows.worksAirRow.maps==(Tryz.f3.params.toList++Rows.worksAirSpec.plain.varTypes Tryz.prog).any (Tryz.prog.mapsRec ·)))=true:=by kernel_rfl
theorem Qa:((Rows.worksAirRow.ifaces==(Tryz.f3.params.toList++Rows.worksAirSpec.plain.varTypes Tryz.prog).any (Tryz.prog.ifacesRec ·)))=true:=by kernel_rfl
theorem wI:((Rows.worksAirRow.mapsOut==Tryz.prog.mapsAmong Tryz.f3.resultTypes.toList))=true:=by kernel_rfl
theorem YN:((Rows.worksAirRow.loops==(Tryz.f3.params.toList++Rows.worksAirSpec.plain.varTypes Tryz.prog).any (Tryz.prog.loopsFrom ·)))=true:=by kernel_rfl
theorem NC:((Rows.worksAirRow.wideKeys==(Tryz.f3.params.toList++Rows.worksAirSpec.plain.varTypes Tryz.prog++Tryz.f3.resultTypes.toList).any (Tryz.prog.wideKeysFrom ·)))=true:=by kernel_rfl
theorem ND:(Rows.worksAirSpec.vars.all (Tryz.prog.varReadable ·))=true:=by kernel_rfl
theorem YO:(Tryz.f3.resultTypes.all (fun t=>Tryz.prog.readableRec t&&decide (t<Tryz.prog.types.size)))=true:=by kernel_rfl
theorem NF:((Rows.worksAirRow.ifacesOut==Tryz.f3.resultTypes.toList.any (Tryz.prog.ifacesRec ·)))=true:=by kernel_rfl
theorem YP:((Rows.worksAirRow.loopsOut==Tryz.f3.resultTypes.toList.any (Tryz.prog.loopsFrom ·)))=true:=by kernel_rfl
theorem KH:((Rows.worksAirRow.plainKeys==Tryz.prog.plainKeys))=true:=by kernel_rfl
theorem SU:(Rows.worksAirRow.shortTexts.isNone)=true:=by kernel_rfl
theorem YQ:(Tryz.prog.stopsHeard)=true:=by kernel_rfl
theorem Qb:(Tryz.prog.mayEnter)=true:=by kernel_rfl
theorem YR:((Rows.worksAirRow.lifted==Tryz.prog.liftsFinal))=true:=by kernel_rfl
theorem SV:((Tryz.prog.make==some Rows.worksAirRow.make))=true:=by kernel_rfl
theorem YS:((Rows.worksAirRow.kinds==(if Rows.worksAirRow.domain.isEmpty then [] else Tryz.f3.params.toList.map fun t=>match Tryz.prog.underlying t with | some (.int k)=>some k | _=>none)))=true:=by kernel_rfl
theorem SW:((Rows.worksAirRow.pinned==Rows.worksAirRow.pinnedBy))=true:=by kernel_rfl
theorem SX:((Rows.worksAirRow.veiled==(Tryz.f3.params.toList++Rows.worksAirSpec.plain.varTypes Tryz.prog++Tryz.f3.resultTypes.toList).any (Tryz.prog.veiledRec ·)))=true:=by kernel_rfl
theorem V0:(Rows.worksAirRow.veiledFits Tryz.prog Tryz.f3.params.toList (Tryz.f3.params.toList++Rows.worksAirSpec.plain.varTypes Tryz.prog++Tryz.f3.resultTypes.toList))=true:=by kernel_rfl
theorem both {a b:Bool} (h:a=true) (g:b=true):(a&&b)=true:=by rw[h,g];rfl
theorem closed:Go.joinedFacts Tryz.prog 3 Tryz.f3 Rows.worksAirSpec Rows.worksAirRow=true:=(both (both (both (both (both (both (both (both (both (both (both (both (both (both (both (both (both (both (both (both (both (both (both (both (both (both (both (both (both (both (both k1 k2) k3) k4) k5) k6) k7) k8) k9) jC) NB) nj) P') ra) Qa) wI) YN) NC) ND) YO) NF) YP) KH) SU) YQ) Qb) YR) SV) YS) SW) SX) V0)
theorem Qc:Tryz.prog.funcNamed Rows.worksAirRow.func=some 3:=by kernel_rfl
end
end Go.Proofs.YtaglmdbkfcpbbaaGreat
