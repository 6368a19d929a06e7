import Derived.Shelf.SlSortCmp.WholeK
import Derived.Shelf.SlSortCmp.NoneTotal
import Derived.Sort.AssemblyPlain
import Derived.Test.YtfllahfbmaafcaaA7
set_option linter.unusedVariables false
set_option linter.unusedSimpArgs false
section
set_option linter.unusedVariables false
namespace Go.Ab
open Go.WideElems Go.RowKit Go.Proofs Go.Shelf
variable {E:Env}
def vo (x:Int×Int):List Value:=[.int .i64 x.1,.int .i64 x.2]
def ui (x y:Int×Int):Int:=Lib.compareInt x.1 y.1
def jJ (L:List (Int×Int)):List (Int×Int):=(Sort.pdq (ltOf ui) L.toArray 0 L.toArray.size (Lib.bitLen L.toArray.size) true true).toList
def kX:List (Int×Int)→List AV
 | []=> []
 | x::l=> .int .i64 x.1:: .int .i64 x.2::kX l
def nh:List (Int×Int)→List Value
 | []=> []
 | x::l=> .int .i64 x.1:: .int .i64 x.2::nh l
def vp:List AV→Option (List (Int×Int))
 | []=>some []
 | .int .i64 a:: .int .i64 b::l=>match vp l with
   | some r=>some ((a,b)::r)
   | none=>none
 | _=>none
theorem Ee:∀L:List (Int×Int),vp (kX L)=some L
 | []=>rfl
 | x::l=>by
   show (match vp (kX l) with | some r=>some ((x.1,x.2)::r) | none=>none)=_
   rw[Ee l]
theorem BX:∀{cs:List AV} {L:List (Int×Int)},vp cs=some L→cs=kX L
 | [],L,h=>by cases h;rfl
 | .int .i64 a:: .int .i64 b::cs,L,h=>by
   simp only[vp] at h
   split at h
   · rename_i r hr
     cases h
     rw[BX hr];rfl
   · cases h
theorem kE:∀L:List (Int×Int),(kX L).length=L.length*2
 | []=>rfl
 | x::l=>by simp only[kX,List.length_cons,kE l];omega
theorem tU:∀L:List (Int×Int),(nh L).length=L.length*2
 | []=>rfl
 | x::l=>by simp only[nh,List.length_cons,tU l];omega
theorem Ef:∀(L:List (Int×Int)) (j:Nat),j<L.length*2→(kX L)[j]? =some (.int .i64 (if j%2=0 then L[j/2]!.1 else L[j/2]!.2))
 | [],j,h=>by simp at h
 | x::l,0,h=>rfl
 | x::l,1,h=>rfl
 | x::l,j+2,h=>by
   show (kX l)[j]? =_
   rw[Ef l j (by simp at h;omega),Nat.add_mod_right,Nat.add_div_right j (by decide)]
   rfl
theorem Eg:∀(L:List (Int×Int)) (j:Nat),j<L.length*2→(nh L)[j]? =some (.int .i64 (if j%2=0 then L[j/2]!.1 else L[j/2]!.2))
 | [],j,h=>by simp at h
 | x::l,0,h=>rfl
 | x::l,1,h=>rfl
 | x::l,j+2,h=>by
   show (nh l)[j]? =_
   rw[Eg l j (by simp at h;omega),Nat.add_mod_right,Nat.add_div_right j (by decide)]
   rfl
theorem BY (φ:Ph):∀L:List (Int×Int),LR φ (kX L) (nh L)
 | []=>LR.nil φ
 | x::l=>LR.cons (.int _ _) (LR.cons (.int _ _) (BY φ l))
theorem qS:∀L:List (Int×Int),(kX L).all AV.scalar=true
 | []=>rfl
 | x::l=>by show (true&&(true&&(kX l).all AV.scalar))=true;rw[qS l];rfl
theorem Eh (d:Array (Int×Int)) (j:Nat) (h:j<d.size*2):(Sort.flatK vo 2 d)[j]! = .int .i64 (if j%2=0 then d.toList[j/2]!.1 else d.toList[j/2]!.2):=by
 rw[Sort.get_flatK vo 2 d j h]
 have e:d.toList[j/2]! =d[j/2]! :=by
  rw[getElem!_pos d (j/2) (by omega),getElem!_pos d.toList (j/2) (by rw[Array.length_toList];omega)];simp
 rw[e]
 rcases Nat.mod_two_eq_zero_or_one j with q | q<;>rw[q]<;>rfl
theorem sF (L:List (Int×Int)):(jJ L).Perm L∧(jJ L).length=L.length∧∀i j,i<j→j<L.length→(jJ L)[i]!.1≤(jJ L)[j]!.1:=by
 have lt:∀x y:Int×Int,ltOf ui x y=decide (x.1<y.1):=fun x y=>by
  unfold ltOf ui Lib.compareInt
  by_cases h1:x.1<y.1
  · simp [h1]
  · by_cases h2:y.1<x.1<;>simp [h1,h2]
 have hO:Sort.SWO (ltOf ui):=by
  refine ⟨fun x=>by rw[lt];simp,fun x y z h1 h2=>?_,fun x y z h1 h2=>?_⟩<;>rw[lt] at * <;>simp at * <;>omega
 have hp:=Sort.pdq_sorts (ltOf ui) hO L.toArray 0 L.toArray.size (Lib.bitLen L.toArray.size) true true (Nat.zero_le _) (Nat.le_refl _) (Or.inl rfl)
 show (Array.toList (Sort.pdq (ltOf ui) L.toArray 0 L.toArray.size (Lib.bitLen L.toArray.size) true true)).Perm L∧(Array.toList (Sort.pdq (ltOf ui) L.toArray 0 L.toArray.size (Lib.bitLen L.toArray.size) true true)).length=L.length∧∀i j,i<j→j<L.length→(Array.toList (Sort.pdq (ltOf ui) L.toArray 0 L.toArray.size (Lib.bitLen L.toArray.size) true true))[i]!.1≤(Array.toList (Sort.pdq (ltOf ui) L.toArray 0 L.toArray.size (Lib.bitLen L.toArray.size) true true))[j]!.1
 generalize Sort.pdq (ltOf ui) L.toArray 0 L.toArray.size (Lib.bitLen L.toArray.size) true true=D at hp
 obtain ⟨⟨h1,_,h3⟩,h4⟩:=hp
 have hs:D.size=L.length:=by simpa using h1
 refine ⟨?_,by rw[Array.length_toList,hs],fun i j hij hj=>?_⟩
 · have e1:(D.extract 0 L.toArray.size).toList=D.toList:=by rw[←h1];simp
   have e2:(L.toArray.extract 0 L.toArray.size).toList=L:=by simp
   rw[e1,e2] at h3
   exact h3
 · have:=h4 i j (Nat.zero_le _) hij (by simpa using hj)
   rw[lt] at this
   have e:∀k,k<L.length→D.toList[k]! =D[k]! :=fun k hk=>by
    rw[getElem!_pos D k (by omega),getElem!_pos D.toList k (by rw[Array.length_toList];omega)];simp
   rw[e i (by omega),e j hj]
   have:=of_decide_eq_false this
   omega
theorem agD:Sort.SWO (ltOf ui):=by
 have lt:∀x y:Int×Int,ltOf ui x y=decide (x.1<y.1):=fun x y=>by
  unfold ltOf ui Lib.compareInt
  by_cases h1:x.1<y.1
  · simp [h1]
  · by_cases h2:y.1<x.1<;>simp [h1,h2]
 refine ⟨fun x=>by rw[lt];simp,fun x y z h1 h2=>?_,fun x y z h1 h2=>?_⟩<;>rw[lt] at * <;>simp at * <;>omega
noncomputable def BZ (g:Nat) (args:List AV) (h:aw):Option (AV×aw):=match args with
 | [.aN,.func g' [] []]=>if g'=g then some (.tuple [],h) else none
 | [.slice i 0 n c _,.func g' [] []]=>if g'=g then (match h.get i with
   | some (.cells cs t false)=>(match vp cs with
     | some L=>if L.length=n∧n≤c∧n<1000000 then some (.tuple [],h.put i (some (.cells (kX (jJ L)) t false))) else none
     | none=>none)
   | _=>none) else none
 | _=>none
structure Nh (P:Program) (f g:FuncId):Prop where
 nothing:∀(p:Option Addr) (cap:Nat) (fv:Value) (w:World),Calls P f #[.slice p 0 cap,fv] w fun e w'=>e= .returned (.tuple #[])∧w'=w
 row:∀(dZ off cap:Nat) (d:Array (Int×Int)) (w:World),Sort.HoldsK vo 2 w dZ off d→dZ<w.heap.size→d.size<1000000→Calls P f #[.slice (some ⟨dZ,off,none⟩) d.size cap,.func (.func g) #[] #[]] w fun e w'=>
  e= .returned (.tuple #[])∧∃n os,w'=sortWorldK vo 2 w dZ off n (Sort.pdq (ltOf ui) d 0 d.size (Lib.bitLen d.size) true true) os
theorem IL {F G:Array Value} (h:G.size=F.size):Sort.setMany F 0 G.toList=G:=by
 apply Array.ext
 · rw[Sort.size_setMany,h]
 · intro i h1 h2
   have e:=Sort.get_setMany G.toList 0 F i (by omega)
   rw[if_pos ⟨Nat.zero_le _,by simpa using h2⟩,Nat.sub_zero] at e
   rw[getElem!_pos _ i h1] at e
   rw[e]
   simp [h2]
theorem R6 {f g:FuncId} (dp:∀args w,(callFunc f args).run E.P w= .ok (.enter f args) w) (hc:Nh E.P f g) (args:List AV) (h:aw) (v:AV) (h':aw) (e:BZ g args h=some (v,h')):kD E f args h v h':=by
 intro φ w vs ok hl
 refine ⟨dp _ _,?_⟩
 unfold BZ at e
 split at e
 · rename_i g'
   split at e
   · obtain ⟨rfl,rfl⟩:=Prod.mk.inj (Option.some.inj e)
     obtain ⟨x,t2,rfl,hx,hl⟩:=hl.cf
     obtain ⟨y,t3,rfl,hy,hl⟩:=hl.cf
     rw[hl.fW]
     cases hx with
     | aN=>
     intro hZ
     obtain ⟨en,w',fr,⟨rfl,rfl⟩,ue,C9,Qx⟩:=hc.nothing none 0 y w hZ
     exact ⟨φ,_,_,fr,VR.tuple' (LR.nil φ),ok,Fr.refl φ h _,ue,C9,Qx⟩
   · cases e
 · rename_i i n c op g'
   split at e
   · rename_i hgg
     subst hgg
     split at e
     · rename_i cs t hg
       split at e
       · rename_i L hL
         split at e
         · rename_i Ke
           obtain ⟨hn,PY,hn6⟩:=Ke
           obtain ⟨rfl,rfl⟩:=Prod.mk.inj (Option.some.inj e)
           obtain ⟨x,t2,rfl,hx,hl⟩:=hl.cf
           obtain ⟨y,t3,rfl,hy,hl⟩:=hl.cf
           rw[hl.fW]
           obtain ⟨a',b',rfl,la,lb⟩:=hy.v7
           have ea:a'= #[]:=by have:=la.fW;simpa using this
           have eb:b'= #[]:=by have:=lb.fW;simpa using this
           subst ea;subst eb
           have hcs:=BX hL
           subst hcs
           subst hn
           cases hx with
           | @slice _ l _ _ _ _ hφ=>
           obtain ⟨C,e',lo,hi,hwc,hC⟩:=ok.live i _ l hg hφ
           have E9:=hC.size
           have hle:=kE L
           have hblk:l.dZ<w.heap.size:=by
            rcases Nat.lt_or_ge l.dZ w.heap.size with a | a
            · exact a
            · rw[Array.getElem?_eq_none a] at hwc;cases hwc
           have hH:Sort.HoldsK vo 2 w l.dZ (l.off+0) L.toArray:=fun j hj=>by
            rw[Sort.size_flatK] at hj
            rw[Eh _ j hj]
            have KW:j<L.length*2:=by simpa using hj
            obtain ⟨y,hy,hyv⟩:=hC.val j _ (Ef L j KW)
            cases hyv with
            | int=>
            refine ⟨?_,?_⟩
            · simp only[World.cell?,hwc,Nat.add_zero,id]
              exact hy
            · rw[frozen_of_heap hwc]
              have:=hC.free rfl (l.off+j) (by omega) (by omega)
              simp only[Nat.add_zero,Bool.and_eq_false_iff,decide_eq_false_iff_not]
              omega
           have PW:=sF L
           have key:=hc.row l.dZ (l.off+0) (gu op c l.ic) L.toArray w hH hblk (by simpa using hn6)
           intro hZ
           obtain ⟨en,w',fr,⟨rfl,n,os,rfl⟩,ue,C9,Qx⟩:=key hZ
           let d':=Sort.pdq (ltOf ui) L.toArray 0 L.toArray.size (Lib.bitLen L.toArray.size) true true
           have JV:d'.size=L.toArray.size:=by have:=PW.2.1;rw[List.size_toArray];exact this
           have Hy:(Sort.flatK vo 2 d').toList=nh (jJ L):=by
            apply List.ext_getElem?
            intro j
            have z1:(Sort.flatK vo 2 d').size=L.length*2:=by rw[Sort.size_flatK,JV];simp
            have z2:(nh (jJ L)).length=L.length*2:=by rw[tU,PW.2.1]
            by_cases hj:j<L.length*2
            · have e1:=Eh d' j (by rw[JV];simpa using hj)
              rw[getElem!_pos _ j (by rw[z1];exact hj)] at e1
              rw[Eg _ j (by rw[PW.2.1];exact hj),Array.getElem?_toList,Array.getElem?_eq_getElem (by rw[z1];exact hj),e1]
              rfl
            · rw[List.getElem?_eq_none (by simp only[Array.length_toList,z1];omega),List.getElem?_eq_none (by omega)]
           obtain ⟨w2,ir,jI,nG⟩:=tG ok hg hφ (BY φ (jJ L)) 0 (by rw[kE,kE,PW.2.1];omega) (qS _)
           have fJ:=py (P:=E.P) hwc (l.off+0) (nh (jJ L)) (by rw[tU,PW.2.1];omega) (fun k h1 h2=>hC.free rfl k (by omega) (by rw[tU,PW.2.1] at h2;omega)) (va (BY φ (jJ L)) (qS _))
           rw[ir] at fJ
           obtain rfl:w2=w.setCells l.dZ (l.off+0) (nh (jJ L)):=by injection fJ
           have pS:setFrom (kX L) 0 (kX (jJ L))=kX (jJ L):=by
            apply List.ext_getElem?
            intro k
            rw[eC,kE,kE,PW.2.1,Nat.zero_add,Nat.sub_zero]
            by_cases hk:k<L.length*2
            · rw[if_pos ⟨Nat.zero_le _,hk,hk⟩]
            · rw[if_neg (by omega),List.getElem?_eq_none (by rw[kE];omega),List.getElem?_eq_none (by rw[kE,PW.2.1];omega)]
           rw[pS] at jI nG
           have agE:Sort.putRowK vo 2 w l.dZ (l.off+0) d'=w.setCells l.dZ (l.off+0) (nh (jJ L)):=by
            have e1:w.setCells l.dZ (l.off+0+0) (Sort.flatK vo 2 d').toList=Sort.putRow id w l.dZ (l.off+0) (Sort.setMany (Sort.flatK vo 2 L.toArray) 0 (Sort.flatK vo 2 d').toList):=by
             conv=>lhs;rw[←Sort.putRow_self id w l.dZ (l.off+0) _ hH]
             exact Sort.setCells_putRow _ _ _ _ _ _ (by simp [JV])
            rw[IL (by simp [JV]),Hy] at e1
            exact e1.symm
           have agG:Below (w.setCells l.dZ (l.off+0) (nh (jJ L))).heap.size (w.setCells l.dZ (l.off+0) (nh (jJ L))) (sortWorldK vo 2 w l.dZ (l.off+0) n d' os):=by
            have ew:sortWorldK vo 2 w l.dZ (l.off+0) n d' os=Sort.grow (Sort.ahead (w.setCells l.dZ (l.off+0) (nh (jJ L))) n) os:=by
             unfold sortWorldK
             rw[←agE];rfl
            rw[ew]
            refine ⟨rfl,rfl,rfl,?_,fun k hk=>?_⟩
            · show _≤((w.setCells l.dZ (l.off+0) (nh (jJ L))).heap++os).size
              rw[Array.size_append];omega
            · show ((w.setCells l.dZ (l.off+0) (nh (jJ L))).heap++os)[k]? =_
              rw[Array.getElem?_append_left hk]
           have R7:=jI.later agG
           exact ⟨φ,_,_,fr,VR.tuple' (LR.nil φ),R7.1,nG.trans R7.2,ue,C9,Qx⟩
         · cases e
       · cases e
     · cases e
   · cases e
 · cases e
end Go.Ab
end
section
namespace Go.Ab
variable {E:Env} {M0:Fa.F'}
theorem IM {call:bj} {ts:List AV} {h h1 h2 h3:aw} {ds:List pw} {f:Operand} {ps:Array Tmp} {aS bd:Code} {g:FuncId} {first adl:List AV} {v:AV} {e:h_} {st:LoopState} {gV:Option Code} {jQ:List AV} {qn:List Tmp} {uc Vk:Code} {Vl:Nat}
 (hf:eh E ts f=some (.func g first adl)) (hd:h.new .uT=some h1) (hl:h1.new (.loop .ready none ts ps.toList aS bd h.nx)=some h2)
 (hc:call (.fn g) (first++[.cO h1.nx]++adl) h2= .ret v h3) (hg:h3.get h1.nx=some (.loop st gV jQ qn uc Vk Vl)) (ir:st≠ .busy) (hj:Hr gV=some e):
 Ev E call (.rangeFunc f ps aS bd) ⟨ts,h,ds,.no⟩ e ⟨ts,h3.put h1.nx (some (.loop .exhausted gV jQ qn uc Vk Vl)),.Db h.nx::ds,.no⟩:=by
 refine ⟨1,fun n hn=>?_⟩
 obtain ⟨k,rfl⟩:∃k,n=k+1:=⟨n - 1,by omega⟩
 show kP E call f ps aS bd ⟨ts,h,ds,.no⟩=_
 unfold kP Mv
 simp only[hf,hd,hl,hc,hg,hj]
theorem KX {d l:Nat} {args:List AV} {h:aw} {st:LoopState} {pd:Option Code} {ts:List AV} {ps:List Tmp} {aS bd:Code} {dn:Nat} {s1 s2:St} {pd1:Option Code} {ts1:List AV} {p_:List Tmp} {rI bd1:Code} {dn1:Nat} {e:h_} {jump:Option Code} {st2:LoopState} {pd2:Option Code} {U0:List AV} {Qi:List Tmp} {PU U1:Code} {U2:Nat}
 (hg:h.get l=some (.loop st pd ts ps aS bd dn)) (hn:args.length=ps.length)
 (ha:Ev E (eX E M0 d) aS ⟨(ps.zip args).foldl (fun ts x=>ts.set x.1 x.2) ts,h,[],.rN l⟩ .normal s1) (h1:s1.h.get l=some (.loop .ready pd1 ts1 p_ rI bd1 dn1))
 (hb:Ev E (eX E M0 d) bd {s1 with h:=s1.h.put l (some (.loop .busy pd1 ts1 p_ rI bd1 dn1))} e s2)
 (he:(e= .normal∧jump=none)∨(e= .ret∧jump=some .ret)∨∃id,e= .exit id∧jump=some (.exit id))
 (h2:s2.h.get l=some (.loop st2 pd2 U0 Qi PU U1 U2)):
 eX E M0 (d+1) (.uV l) args h= .ret (.bool jump.isNone) (s2.h.put l (some (.loop (if jump.isNone then .ready else .done) jump U0 Qi PU U1 U2))):=by
 obtain ⟨n1,k1⟩:=ha
 obtain ⟨n2,k2⟩:=hb
 refine OT ⟨n1+n2,fun n hle=>?_⟩
 unfold qt
 simp only[hg,hn,if_true,k1 n (by omega),h1,k2 n (by omega)]
 rcases he with ⟨rfl,rfl⟩ | ⟨rfl,rfl⟩ | ⟨id,rfl,rfl⟩<;>simp [An,h2]
noncomputable def shut:List Nat→aw→aw
 | [],h=>h
 | r::L,h=>shut L (h.put r none)
theorem qc:∀{L:List Nat} {h:aw} {k:Nat},k ∉ L→(shut L h).get k=h.get k
 | [],_,_,_=>rfl
 | r::L,h,k,hk=>by
   rw[shut,qc (fun c=>hk (List.mem_cons_of_mem _ c)),aw.bx (fun e=>hk (by rw[e];exact List.mem_cons_self ..))]
theorem tV:∀{L:List Nat} {h:aw},(shut L h).nx=h.nx
 | [],_=>rfl
 | r::L,h=>by rw[shut,tV];rfl
theorem zR {cd:FuncId→List AV→aw→RC→Option (aw×RC)}:∀{L:List Nat} {h:aw},L.Nodup→(∀r∈L,h.get r=some .uT)→cK cd (L.map .Db) none h=some (none,shut L h)
 | [],_,_,_=>rfl
 | r::L,h,hn,hg=>by
   rw[List.map_cons,cK,hg r (List.mem_cons_self ..)]
   have hr:=(List.nodup_cons.1 hn).1
   exact zR (List.nodup_cons.1 hn).2 fun q hq=>by
    rw[aw.bx (fun e=>hr (by rw[e];exact hq))];exact hg q (List.mem_cons_of_mem _ hq)
theorem R8 {call:bj} {f:FuncId} {fn:Func} {c:Code} {args Ys ts:List AV} {h h':aw} {x:h_} {v:AV} {L:List Nat} (hf:E.P.funcs[f]? =some fn) (hb:fn.body=some c) (ht:args++List.replicate (fn.ntmps - args.length) AV.undef=Ys) (hx:x= .normal∨x= .ret)
 (e:Ev E call c ⟨Ys,h,[],.no⟩ x ⟨ts,h',L.map .Db,.no⟩) (hn:L.Nodup) (hg:∀r∈L,h'.get r=some .uT) (hr:(jw E (shut L h') ts fn.results.toList).map fO=some v):ug E call f args h v (shut L h'):=by
 subst ht
 cases hv:jw E (shut L h') ts fn.results.toList with
 | none=>rw[hv] at hr;cases hr
 | some vs=>
   rw[hv] at hr
   obtain rfl:fO vs=v:=Option.some.inj hr
   obtain ⟨n0,e⟩:=e
   refine ⟨n0,fun n hle=>?_⟩
   have U5:mo E call n fn c args h .no= .ok x ⟨ts,h',L.map .Db,.no⟩:=e n hle
   unfold wK
   simp only[hf,hb,U5]
   rcases hx with rfl | rfl<;>simp only[qN,zR hn hg,hv]
end Go.Ab
end
