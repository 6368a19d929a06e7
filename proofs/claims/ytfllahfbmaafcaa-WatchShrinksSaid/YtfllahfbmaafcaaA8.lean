import Derived.Test.YtfllahfbmaafcaaA7
namespace Go.Ab
variable {E:Env} {M0:Fa.Df}
theorem FG {call:aW} {ts:List AV} {h h1 h2 h3:au} {ds:List nw} {f:Operand} {ps:Array Tmp} {aS bd:Code} {g:FuncId} {first aah:List AV} {v:AV} {e:gR} {st:LoopState} {fS:Option Code} {iN:List AV} {oA:List Tmp} {rX R1:Code} {R2:Nat}
 (hf:du E ts f=some (.func g first aah)) (hd:h.new .tJ=some h1) (hl:h1.new (.loop .ready none ts ps.toList aS bd h.nx)=some h2)
 (hc:call (.fn g) (first++[.cr h1.nx]++aah) h2= .ret v h3) (hg:h3.get h1.nx=some (.loop st fS iN oA rX R1 R2)) (gQ:st≠ .busy) (hj:D_ fS=some e):
 Ev E call (.rangeFunc f ps aS bd) ⟨ts,h,ds,.no⟩ e ⟨ts,h3.put h1.nx (some (.loop .exhausted fS iN oA rX R1 R2)),.MI h.nx::ds,.no⟩:=by
 refine ⟨1,fun n hn=>?_⟩
 obtain ⟨k,rfl⟩:∃k,n=k+1:=⟨n - 1,by omega⟩
 show jJ E call f ps aS bd ⟨ts,h,ds,.no⟩=_
 unfold jJ IT
 simp only[hf,hd,hl,hc,hg,hj]
theorem HF {d l:Nat} {args:List AV} {h:au} {st:LoopState} {pd:Option Code} {ts:List AV} {ps:List Tmp} {aS bd:Code} {dn:Nat} {s1 s2:St} {pd1:Option Code} {ts1:List AV} {og:List Tmp} {pP bd1:Code} {dn1:Nat} {e:gR} {jump:Option Code} {st2:LoopState} {pd2:Option Code} {RA:List AV} {M8:List Tmp} {MK RB:Code} {RD:Nat}
 (hg:h.get l=some (.loop st pd ts ps aS bd dn)) (hn:args.length=ps.length)
 (ha:Ev E (dU E M0 d) aS ⟨(ps.zip args).foldl (fun ts x=>ts.set x.1 x.2) ts,h,[],.pT l⟩ .normal s1) (h1:s1.h.get l=some (.loop .ready pd1 ts1 og pP bd1 dn1))
 (hb:Ev E (dU E M0 d) bd {s1 with h:=s1.h.put l (some (.loop .busy pd1 ts1 og pP bd1 dn1))} e s2)
 (he:(e= .normal∧jump=none)∨(e= .ret∧jump=some .ret)∨∃id,e= .exit id∧jump=some (.exit id))
 (h2:s2.h.get l=some (.loop st2 pd2 RA M8 MK RB RD)):
 dU E M0 (d+1) (.sL l) args h= .ret (.bool jump.isNone) (s2.h.put l (some (.loop (if jump.isNone then .ready else .done) jump RA M8 MK RB RD))):=by
 obtain ⟨n1,k1⟩:=ha
 obtain ⟨n2,k2⟩:=hb
 refine K9 ⟨n1+n2,fun n hle=>?_⟩
 unfold oG
 simp only[hg,hn,if_true,k1 n (by omega),h1,k2 n (by omega)]
 rcases he with ⟨rfl,rfl⟩ | ⟨rfl,rfl⟩ | ⟨id,rfl,rfl⟩<;>simp [xy,h2]
noncomputable def shut:List Nat→au→au
 | [],h=>h
 | r::L,h=>shut L (h.put r none)
theorem oo:∀{L:List Nat} {h:au} {k:Nat},k ∉ L→(shut L h).get k=h.get k
 | [],_,_,_=>rfl
 | r::L,h,k,hk=>by
   rw[shut,oo (fun c=>hk (List.mem_cons_of_mem _ c)),au.aY (fun e=>hk (by rw[e];exact List.mem_cons_self ..))]
theorem rN:∀{L:List Nat} {h:au},(shut L h).nx=h.nx
 | [],_=>rfl
 | r::L,h=>by rw[shut,rN];rfl
theorem w7 {cd:FuncId→List AV→au→RC→Option (au×RC)}:∀{L:List Nat} {h:au},L.Nodup→(∀r∈L,h.get r=some .tJ)→cn cd (L.map .MI) none h=some (none,shut L h)
 | [],_,_,_=>rfl
 | r::L,h,hn,hg=>by
   rw[List.map_cons,cn,hg r (List.mem_cons_self ..)]
   have hr:=(List.nodup_cons.1 hn).1
   exact w7 (List.nodup_cons.1 hn).2 fun q hq=>by
    rw[au.aY (fun e=>hr (by rw[e];exact hq))];exact hg q (List.mem_cons_of_mem _ hq)
theorem OW {call:aW} {f:FuncId} {fn:Func} {c:Code} {args Ve ts:List AV} {h h':au} {x:gR} {v:AV} {L:List Nat} (hf:E.P.funcs[f]? =some fn) (hb:fn.body=some c) (ht:args++List.replicate (fn.ntmps - args.length) AV.undef=Ve) (hx:x= .normal∨x= .ret)
 (e:Ev E call c ⟨Ve,h,[],.no⟩ x ⟨ts,h',L.map .MI,.no⟩) (hn:L.Nodup) (hg:∀r∈L,h'.get r=some .tJ) (hr:(iy E (shut L h') ts fn.results.toList).map eW=some v):r7 E call f args h v (shut L h'):=by
 subst ht
 cases hv:iy E (shut L h') ts fn.results.toList with
 | none=>rw[hv] at hr;cases hr
 | some vs=>
   rw[hv] at hr
   obtain rfl:eW vs=v:=Option.some.inj hr
   obtain ⟨n0,e⟩:=e
   refine ⟨n0,fun n hle=>?_⟩
   have RH:kL E call n fn c args h .no= .ok x ⟨ts,h',L.map .MI,.no⟩:=e n hle
   unfold uk
   simp only[hf,hb,RH]
   rcases hx with rfl | rfl<;>simp only[o7,w7 hn hg,hv]
end Go.Ab
