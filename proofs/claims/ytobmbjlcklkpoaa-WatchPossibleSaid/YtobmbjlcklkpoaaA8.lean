import Derived.Test.YtobmbjlcklkpoaaA7
namespace Go.Ab
variable {E:Env} {M0:Fa.FR}
theorem BJ {call:bj} {ts:List AV} {h h1 h2 h3:aw} {ds:List oh} {f:Operand} {ps:Array Tmp} {aS bd:Code} {g:FuncId} {first abL:List AV} {v:AV} {e:iC} {st:LoopState} {iy:Option Code} {jY:List AV} {qy:List Tmp} {um Uw:Code} {Ux:Nat}
 (hf:eu E ts f=some (.func g first abL)) (hd:h.new .pG=some h1) (hl:h1.new (.loop .ready none ts ps.toList aS bd h.nx)=some h2)
 (hc:call (.fn g) (first++[.cQ h1.nx]++abL) h2= .ret v h3) (hg:h3.get h1.nx=some (.loop st iy jY qy um Uw Ux)) (jk:st≠ .busy) (hj:Hq iy=some e):
 Ev E call (.rangeFunc f ps aS bd) ⟨ts,h,ds,.no⟩ e ⟨ts,h3.put h1.nx (some (.loop .exhausted iy jY qy um Uw Ux)),.rQ h.nx::ds,.no⟩:=by
 refine ⟨1,fun n hn=>?_⟩
 obtain ⟨k,rfl⟩:∃k,n=k+1:=⟨n - 1,by omega⟩
 show lO E call f ps aS bd ⟨ts,h,ds,.no⟩=_
 unfold lO L_
 simp only[hf,hd,hl,hc,hg,hj]
theorem F0 {d l:Nat} {args:List AV} {h:aw} {st:LoopState} {pd:Option Code} {ts:List AV} {ps:List Tmp} {aS bd:Code} {dn:Nat} {s1 s2:St} {pd1:Option Code} {ts1:List AV} {qj:List Tmp} {rW bd1:Code} {dn1:Nat} {e:iC} {jump:Option Code} {st2:LoopState} {pd2:Option Code} {T':List AV} {PF:List Tmp} {O_ Ua:Code} {Ub:Nat}
 (hg:h.get l=some (.loop st pd ts ps aS bd dn)) (hn:args.length=ps.length)
 (ha:Ev E (e_ E M0 d) aS ⟨(ps.zip args).foldl (fun ts x=>ts.set x.1 x.2) ts,h,[],.pX l⟩ .normal s1) (h1:s1.h.get l=some (.loop .ready pd1 ts1 qj rW bd1 dn1))
 (hb:Ev E (e_ E M0 d) bd {s1 with h:=s1.h.put l (some (.loop .busy pd1 ts1 qj rW bd1 dn1))} e s2)
 (he:(e= .normal∧jump=none)∨(e= .ret∧jump=some .ret)∨∃id,e= .exit id∧jump=some (.exit id))
 (h2:s2.h.get l=some (.loop st2 pd2 T' PF O_ Ua Ub)):
 e_ E M0 (d+1) (.vg l) args h= .ret (.bool jump.isNone) (s2.h.put l (some (.loop (if jump.isNone then .ready else .done) jump T' PF O_ Ua Ub))):=by
 obtain ⟨n1,k1⟩:=ha
 obtain ⟨n2,k2⟩:=hb
 refine Ou ⟨n1+n2,fun n hle=>?_⟩
 unfold qF
 simp only[hg,hn,if_true,k1 n (by omega),h1,k2 n (by omega)]
 rcases he with ⟨rfl,rfl⟩ | ⟨rfl,rfl⟩ | ⟨id,rfl,rfl⟩<;>simp [zZ,h2]
noncomputable def shut:List Nat→aw→aw
 | [],h=>h
 | r::L,h=>shut L (h.put r none)
theorem kM:∀{L:List Nat} {h:aw} {k:Nat},k ∉ L→(shut L h).get k=h.get k
 | [],_,_,_=>rfl
 | r::L,h,k,hk=>by
   rw[shut,kM (fun c=>hk (List.mem_cons_of_mem _ c)),aw.bx (fun e=>hk (by rw[e];exact List.mem_cons_self ..))]
theorem nQ:∀{L:List Nat} {h:aw},(shut L h).nx=h.nx
 | [],_=>rfl
 | r::L,h=>by rw[shut,nQ];rfl
theorem zD {cd:FuncId→List AV→aw→RC→Option (aw×RC)}:∀{L:List Nat} {h:aw},L.Nodup→(∀r∈L,h.get r=some .pG)→cO cd (L.map .rQ) none h=some (none,shut L h)
 | [],_,_,_=>rfl
 | r::L,h,hn,hg=>by
   rw[List.map_cons,cO,hg r (List.mem_cons_self ..)]
   have hr:=(List.nodup_cons.1 hn).1
   exact zD (List.nodup_cons.1 hn).2 fun q hq=>by
    rw[aw.bx (fun e=>hr (by rw[e];exact hq))];exact hg q (List.mem_cons_of_mem _ hq)
theorem F1 {call:bj} {f:FuncId} {fn:Func} {c:Code} {args Xr ts:List AV} {h h':aw} {x:iC} {v:AV} {L:List Nat} (hf:E.P.funcs[f]? =some fn) (hb:fn.body=some c) (ht:args++List.replicate (fn.ntmps - args.length) AV.undef=Xr) (hx:x= .normal∨x= .ret)
 (e:Ev E call c ⟨Xr,h,[],.no⟩ x ⟨ts,h',L.map .rQ,.no⟩) (hn:L.Nodup) (hg:∀r∈L,h'.get r=some .pG) (hr:(j5 E (shut L h') ts fn.results.toList).map gF=some v):sQ E call f args h v (shut L h'):=by
 subst ht
 cases hv:j5 E (shut L h') ts fn.results.toList with
 | none=>rw[hv] at hr;cases hr
 | some vs=>
   rw[hv] at hr
   obtain rfl:gF vs=v:=Option.some.inj hr
   obtain ⟨n0,e⟩:=e
   refine ⟨n0,fun n hle=>?_⟩
   have Ue:mU E call n fn c args h .no= .ok x ⟨ts,h',L.map .rQ,.no⟩:=e n hle
   unfold wM
   simp only[hf,hb,Ue]
   rcases hx with rfl | rfl<;>simp only[qY,zD hn hg,hv]
end Go.Ab
