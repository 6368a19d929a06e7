import Derived.Test.YtfllahfbmaafcaaA7
namespace Go.Ab
variable {E:Env} {M0:Fa.GD}
theorem B7 {call:bh} {ts:List AV} {h h1 h2 h3:aA} {ds:List oB} {f:Operand} {ps:Array Tmp} {aS bd:Code} {g:FuncId} {first acL:List AV} {v:AV} {e:iB} {st:LoopState} {ir:Option Code} {kz:List AV} {qM:List Tmp} {uF Vi:Code} {Vj:Nat}
 (hf:eA E ts f=some (.func g first acL)) (hd:h.new .qQ=some h1) (hl:h1.new (.loop .ready none ts ps.toList aS bd h.nx)=some h2)
 (hc:call (.fn g) (first++[.cE h1.nx]++acL) h2= .ret v h3) (hg:h3.get h1.nx=some (.loop st ir kz qM uF Vi Vj)) (iY:st≠ .busy) (hj:Ef ir=some e):
 Ev E call (.rangeFunc f ps aS bd) ⟨ts,h,ds,.no⟩ e ⟨ts,h3.put h1.nx (some (.loop .exhausted ir kz qM uF Vi Vj)),.pj h.nx::ds,.no⟩:=by
 refine ⟨1,fun n hn=>?_⟩
 obtain ⟨k,rfl⟩:∃k,n=k+1:=⟨n - 1,by omega⟩
 show lN E call f ps aS bd ⟨ts,h,ds,.no⟩=_
 unfold lN MK
 simp only[hf,hd,hl,hc,hg,hj]
theorem Ls {d l:Nat} {args:List AV} {h:aA} {st:LoopState} {pd:Option Code} {ts:List AV} {ps:List Tmp} {aS bd:Code} {dn:Nat} {s1 s2:St} {pd1:Option Code} {ts1:List AV} {qn:List Tmp} {se bd1:Code} {dn1:Nat} {e:iB} {jump:Option Code} {st2:LoopState} {pd2:Option Code} {UW:List AV} {QB:List Tmp} {P9 UX:Code} {UY:Nat}
 (hg:h.get l=some (.loop st pd ts ps aS bd dn)) (hn:args.length=ps.length)
 (ha:Ev E (fF E M0 d) aS ⟨(ps.zip args).foldl (fun ts x=>ts.set x.1 x.2) ts,h,[],.sm l⟩ .normal s1) (h1:s1.h.get l=some (.loop .ready pd1 ts1 qn se bd1 dn1))
 (hb:Ev E (fF E M0 d) bd {s1 with h:=s1.h.put l (some (.loop .busy pd1 ts1 qn se bd1 dn1))} e s2)
 (he:(e= .normal∧jump=none)∨(e= .ret∧jump=some .ret)∨∃id,e= .exit id∧jump=some (.exit id))
 (h2:s2.h.get l=some (.loop st2 pd2 UW QB P9 UX UY)):
 fF E M0 (d+1) (.ua l) args h= .ret (.bool jump.isNone) (s2.h.put l (some (.loop (if jump.isNone then .ready else .done) jump UW QB P9 UX UY))):=by
 obtain ⟨n1,k1⟩:=ha
 obtain ⟨n2,k2⟩:=hb
 refine Pl ⟨n1+n2,fun n hle=>?_⟩
 unfold qT
 simp only[hg,hn,if_true,k1 n (by omega),h1,k2 n (by omega)]
 rcases he with ⟨rfl,rfl⟩ | ⟨rfl,rfl⟩ | ⟨id,rfl,rfl⟩<;>simp [Av,h2]
noncomputable def shut:List Nat→aA→aA
 | [],h=>h
 | r::L,h=>shut L (h.put r none)
theorem oV:∀{L:List Nat} {h:aA} {k:Nat},k ∉ L→(shut L h).get k=h.get k
 | [],_,_,_=>rfl
 | r::L,h,k,hk=>by
   rw[shut,oV (fun c=>hk (List.mem_cons_of_mem _ c)),aA.bB (fun e=>hk (by rw[e];exact List.mem_cons_self ..))]
theorem rz:∀{L:List Nat} {h:aA},(shut L h).nx=h.nx
 | [],_=>rfl
 | r::L,h=>by rw[shut,rz];rfl
theorem zY {cd:FuncId→List AV→aA→RC→Option (aA×RC)}:∀{L:List Nat} {h:aA},L.Nodup→(∀r∈L,h.get r=some .qQ)→cN cd (L.map .pj) none h=some (none,shut L h)
 | [],_,_,_=>rfl
 | r::L,h,hn,hg=>by
   rw[List.map_cons,cN,hg r (List.mem_cons_self ..)]
   have hr:=(List.nodup_cons.1 hn).1
   exact zY (List.nodup_cons.1 hn).2 fun q hq=>by
    rw[aA.bB (fun e=>hr (by rw[e];exact hq))];exact hg q (List.mem_cons_of_mem _ hq)
theorem Lt {call:bh} {f:FuncId} {fn:Func} {c:Code} {args X9 ts:List AV} {h h':aA} {x:iB} {v:AV} {L:List Nat} (hf:E.P.funcs[f]? =some fn) (hb:fn.body=some c) (ht:args++List.replicate (fn.ntmps - args.length) AV.undef=X9) (hx:x= .normal∨x= .ret)
 (e:Ev E call c ⟨X9,h,[],.no⟩ x ⟨ts,h',L.map .pj,.no⟩) (hn:L.Nodup) (hg:∀r∈L,h'.get r=some .qQ) (hr:(jL E (shut L h') ts fn.results.toList).map fR=some v):uJ E call f args h v (shut L h'):=by
 subst ht
 cases hv:jL E (shut L h') ts fn.results.toList with
 | none=>rw[hv] at hr;cases hr
 | some vs=>
   rw[hv] at hr
   obtain rfl:fR vs=v:=Option.some.inj hr
   obtain ⟨n0,e⟩:=e
   refine ⟨n0,fun n hle=>?_⟩
   have U1:mZ E call n fn c args h .no= .ok x ⟨ts,h',L.map .pj,.no⟩:=e n hle
   unfold xk
   simp only[hf,hb,U1]
   rcases hx with rfl | rfl<;>simp only[rp,zY hn hg,hv]
end Go.Ab
