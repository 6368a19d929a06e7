import Derived.Test.YtkffioplnoajdaaGreatW0
namespace Go.Proofs.aP
open Go.Proofs Ab
set_option maxRecDepth 100000
set_option maxHeartbeats 4000000
set_option linter.unusedVariables false
set_option linter.unusedSimpArgs false
section
variable {h:au} {b:Nat} {pre post:List AV} {L:List Int} {e:TypeId} {ro:Bool} {o t j x:Nat}
theorem IB (L:List Int) (pre post:List AV) {j:Nat} (hj:j<L.length):(pre++zs .i64 L++post)[pre.length+j]? =some (.int .i64 (L.g j)):=by
 rw[List.getElem?_append_left (by rw[List.length_append,fB];omega),List.getElem?_append_right o!,show pre.length+j - pre.length=j by omega]
 exact Iy .i64 L hj
theorem eT (ht:fw env t=some false) (hg:h.get b=some (.cells (pre++zs .i64 L++post) e ro)) (ho:pre.length=o) (hj:j<L.length) (hx:x=o+j):bh env h t (.ptr b x)=some (.int .i64 (L.g j)):=by
 subst hx;subst ho
 simp only[bh,hg,iK,ht]
 exact IB L pre post hj
theorem abI {cs:List AV} {k:Nat} {a c:AV} (h1:cs[k]? =some a) (h2:cs[k+1]? =some c):(cs.drop k).take 2=[a,c]:=by
 have l2:=(List.getElem?_eq_some_iff.1 h2).1
 apply List.ext_getElem?
 intro i
 match i with
 | 0=>rw[List.getElem?_take_of_lt o!,List.getElem?_drop];exact h1
 | 1=>rw[List.getElem?_take_of_lt o!,List.getElem?_drop];exact h2
 | i+2=>rw[List.getElem?_eq_none (by rw[List.length_take];omega),List.getElem?_eq_none (by simp)]
theorem Q0 (ht:fw env t=some true) (hs:bU env t=some 2) (hg:h.get b=some (.cells (pre++zs .i64 L++post) e ro)) (ho:pre.length=o) (hj:j+1<L.length) (hx:x=o+j):bh env h t (.ptr b x)=some (.agg [.int .i64 (L.g j),.int .i64 (L.g (j+1))]):=by
 subst hx;subst ho
 have h1:=IB L pre post (j:=j) o!
 have h2:=IB L pre post (j:=j+1) hj
 have l2:=(List.getElem?_eq_some_iff.1 h2).1
 simp only[bh,hg,iK,ht,hs]
 rw[if_pos o!,abI h1 h2]
theorem jR {n el z:Nat} {i:Int} {k:Nat} (hs:bU env el=some z) (hi:k<n) (hk:i=(k:Int)):bS env (some (.array n el)) (some (.ptr b o)) (some (.int .i64 i))=some (.ptr b (o+k*z)):=by
 subst hk
 simp only[bS,hs]
 rw[if_pos ⟨by omega,by omega⟩,Int.toNat_natCast]
theorem CH (L:List Int) (pre post:List AV) {j:Nat} (hj:j<L.length) (v:Int):setFrom (pre++zs .i64 L++post) (pre.length+j) [.int .i64 v]=pre++zs .i64 (L.set j v)++post:=by
 show (pre++zs .i64 L++post).set (pre.length+j) (.int .i64 v)=_
 rw[List.set_append_left _ _ (by rw[List.length_append,fB];omega),List.set_append_right _ _ o!,show pre.length+j - pre.length=j by omega,Up]
theorem pU {v:Int} (y:Tidy h) (hs:bU env t=some 1) (hg:h.get b=some (.cells (pre++zs .i64 L++post) e false)) (ho:pre.length=o) (hj:j<L.length) (hx:x=o+j):∃h',dL env h t (.ptr b x) (.int .i64 v)=some h'∧Iw h h' b (.cells (pre++zs .i64 (L.set j v)++post) e false)∧h'.nx=h.nx:=by
 subst hx;subst ho
 obtain ⟨h',s⟩:=rE (E:=env) (t:=t) (o:=pre.length+j) (n:=1) (v:= .int .i64 v) hg hs rfl (by rw[List.length_append,List.length_append,fB];omega) rfl
 have q:=od s hg
 have c:=j9 (o:= .cells (pre++zs .i64 (L.set j v)++post) e false) y hg
 rw[show (AV.int IntKind.i64 v).cells=[.int .i64 v] from rfl,CH L pre post hj] at q
 subst q
 exact ⟨_,s,c,rfl⟩
theorem IC {n c el z:Nat} {op:Bool} {i:Int} {k:Nat} (hs:bU env el=some z) (hi:k<n) (hk:i=(k:Int)):bS env (some (.slice el)) (some (.slice b o n c op)) (some (.int .i64 i))=some (.ptr b (o+k*z)):=by
 subst hk;exact nu hs hi
theorem K5 {e N hi:Nat} {hh:Int} {size:Nat} (ht:env.P.underlying t=some (.array N e)) (hs:bU env e=some size) (h1:hh=(hi:Nat)) (h2:hi≤N):db env t (.ptr b o) none (some (.int .i64 hh)) none=some (.slice b o hi N false):=by
 subst h1
 simp only[db,ht,hs,mm (len:=N) (cap:=N) (lo:=0) none (some (.int .i64 (hi:Nat))) (.inr ⟨rfl,rfl⟩) (.inl rfl) (Nat.zero_le _) h2]
 simp
theorem ny {e N lo hi z:Nat} {ll hh:Int} (ht:env.P.underlying t=some (.array N e)) (hs:bU env e=some z) (h0:ll=(lo:Nat)) (h1:hh=(hi:Nat)) (h2:lo≤hi∧hi≤N) (h3:lo<N):db env t (.ptr b o) (some (.int .i64 ll)) (some (.int .i64 hh)) none=some (.slice b (o+lo*z) (hi - lo) (N - lo) false):=by
 subst h0;subst h1
 simp only[db,ht,hs,mm (len:=N) (cap:=N) (some (.int .i64 (lo:Nat))) (some (.int .i64 (hi:Nat))) (.inl rfl) (.inl rfl) h2.1 h2.2]
 rw[if_neg o!]
theorem BL {e N z:Nat} {ll hh:Int} (ht:env.P.underlying t=some (.array N e)) (hs:bU env e=some z) (h0:ll=(N:Nat)) (h1:hh=(N:Nat)):db env t (.ptr b o) (some (.int .i64 ll)) (some (.int .i64 hh)) none=some (.slice b o 0 0 false):=by
 subst h0;subst h1
 simp only[db,ht,hs,mm (len:=N) (cap:=N) (some (.int .i64 (N:Nat))) (some (.int .i64 (N:Nat))) (.inl rfl) (.inl rfl) (Nat.le_refl _) (Nat.le_refl _)]
 simp only[if_true,Nat.sub_self]
theorem sq {v w:Int} (y:Tidy h) (hs:bU env t=some 2) (hg:h.get b=some (.cells (pre++zs .i64 L++post) e false)) (ho:pre.length=o) (hj:j+1<L.length) (hx:x=o+j):∃h',dL env h t (.ptr b x) (.agg [.int .i64 v,.int .i64 w])=some h'∧Iw h h' b (.cells (pre++zs .i64 ((L.set j v).set (j+1) w)++post) e false)∧h'.nx=h.nx:=by
 subst hx;subst ho
 obtain ⟨h',s⟩:=rE (E:=env) (t:=t) (o:=pre.length+j) (n:=2) (v:= .agg [.int .i64 v,.int .i64 w]) hg hs rfl (by rw[List.length_append,List.length_append,fB];omega) rfl
 have q:=od s hg
 have c:=j9 (o:= .cells (pre++zs .i64 ((L.set j v).set (j+1) w)++post) e false) y hg
 have e2:setFrom (pre++zs .i64 L++post) (pre.length+j) (AV.agg [.int .i64 v,.int .i64 w]).cells=pre++zs .i64 ((L.set j v).set (j+1) w)++post:=by
  show setFrom ((pre++zs .i64 L++post).set (pre.length+j) (.int .i64 v)) (pre.length+j+1) [.int .i64 w]=_
  have h1:=CH L pre post (j:=j) o! v
  rw[show setFrom (pre++zs .i64 L++post) (pre.length+j) [.int .i64 v]=(pre++zs .i64 L++post).set (pre.length+j) (.int .i64 v) from rfl] at h1
  rw[h1,Nat.add_assoc,CH (L.set j v) pre post (j:=j+1) (by rw[List.length_set];exact hj) w]
 rw[e2] at q
 subst q
 exact ⟨_,s,c,rfl⟩
def aR (L:List Int) (d s n:Nat):List Int:=if d+n≤L.length∧s+n≤L.length then L.take d++(L.drop s).take n++L.drop (d+n) else L
theorem vK (L:List Int) (d s n:Nat):(aR L d s n).length=L.length:=by
 unfold aR
 split
 · simp only[List.length_append,List.length_take,List.length_drop];omega
 · rfl
theorem Yu {L:List Int} {j:Nat} (hj:j<L.length) (v:Int):(L.set j v).take (j+1)=L.take j++[v]∧∀k,j<k→(L.set j v).drop k=L.drop k:=by
 constructor
 · apply List.ext_getElem?
   intro i
   by_cases h1:i<j
   · rw[List.getElem?_take_of_lt o!,List.getElem?_set_ne o!,List.getElem?_append_left (by rw[List.length_take];omega),List.getElem?_take_of_lt h1]
   · by_cases h2:i=j
     · subst h2
       rw[List.getElem?_take_of_lt o!,List.getElem?_set_self hj,List.getElem?_append_right (by rw[List.length_take];omega)]
       rw[List.length_take,show i - min i L.length=0 by omega];rfl
     · rw[List.getElem?_eq_none (by rw[List.length_take];omega),List.getElem?_eq_none (by simp;omega)]
 · intro k hk
   apply List.ext_getElem?
   intro i
   rw[List.getElem?_drop,List.getElem?_drop,List.getElem?_set_ne o!]
theorem qp (pre post:List AV):∀(M L:List Int) (j:Nat),j+M.length≤L.length→setFrom (pre++zs .i64 L++post) (pre.length+j) (zs .i64 M)=pre++zs .i64 (L.take j++M++L.drop (j+M.length))++post
 | [],L,j,h=>by
   rw[List.append_nil,List.length_nil,Nat.add_zero,List.take_append_drop];rfl
 | v::M,L,j,h=>by
   rw[List.length_cons] at h
   have h1:=CH L pre post (j:=j) o! v
   show setFrom ((pre++zs .i64 L++post).set (pre.length+j) (.int .i64 v)) (pre.length+j+1) (zs .i64 M)=_
   rw[show (pre++zs .i64 L++post).set (pre.length+j) (.int .i64 v)=pre++zs .i64 (L.set j v)++post from h1,Nat.add_assoc,qp pre post M (L.set j v) (j+1) (by rw[List.length_set];omega)]
   obtain ⟨c1,c2⟩:=Yu (show j<L.length by omega) v
   rw[c1,c2 _ o!,List.length_cons,show j+1+M.length=j+(M.length+1) by omega]
   have:L.take j++[v]++M++L.drop (j+(M.length+1))=L.take j++v::M++L.drop (j+(M.length+1)):=by simp
   rw[this]
theorem Ut (L:List Int) (pre post:List AV) {j n:Nat} (h:j+n≤L.length):((pre++zs .i64 L++post).drop (pre.length+j)).take n=zs .i64 ((L.drop j).take n):=by
 rw[List.append_assoc,List.drop_append,show pre.length+j - pre.length=j by omega,List.drop_of_length_le (show pre.length≤pre.length+j by omega),List.nil_append,List.drop_append,List.take_append]
 rw[show n -((zs .i64 L).drop j).length=0 by rw[List.length_drop,fB];omega,List.take_zero,List.append_nil]
 rw[zs,zs,←List.map_drop,←List.map_take]
theorem iS {l:List Int} {i:Nat} {x:Int} (h:i<l.length):(l.set i x).g i=x:=by
 rw[List.g,List.getD_eq_getElem?_getD,List.getElem?_set_self h];rfl
theorem bf {l:List Int} {i j:Nat} (h:i≠j) (x:Int):(l.set i x).g j=l.g j:=by
 rw[List.g,List.g,List.getD_eq_getElem?_getD,List.getD_eq_getElem?_getD,List.getElem?_set_ne h]
theorem eb {L:List Int} {d s n k:Nat} (h:k<d∨d+n≤k):(aR L d s n).g k=L.g k:=by
 unfold aR
 split
 · rename_i q
   rw[List.g,List.g,List.getD_eq_getElem?_getD,List.getD_eq_getElem?_getD]
   rcases h with h | h
   · rw[List.append_assoc,List.getElem?_append_left (by rw[List.length_take];omega),List.getElem?_take_of_lt h]
   · have e:(L.take d++(L.drop s).take n).length=d+n:=by rw[List.length_append,List.length_take,List.length_take,List.length_drop];omega
     rw[List.getElem?_append_right o!,e,List.getElem?_drop,show d+n+(k -(d+n))=k by omega]
 · rfl
theorem uP {t:List Int} {v minute c:Int} (hv:0<v) (i1:v≤c) (hm:minute≤t.g ((Int.toNat (v - 1))*2)):0≤v - 1∧v - 1≤c∧(v - 1=0→minute≤t.g 0):=
 ⟨by omega,by omega,fun h=>by rw[h] at hm;exact hm⟩
theorem vL (l:List Int):(zs .i64 l).all AV.scalar=true:=List.all_eq_true.2 fun x hx=>by
 obtain ⟨y,_,rfl⟩:=List.mem_map.1 hx
 rfl
theorem y8 {et z nd ns cd cq xd xs jd js:Nat} {op oq:Bool} {dT:TypeId} {tys:Array TypeId} (y:Tidy h) (t0:tys[0]? =some dT) (ht:env.P.underlying dT=some (.slice et)) (hz:bU env et=some z) (hg:h.get b=some (.cells (pre++zs .i64 L++post) e false)) (ho:pre.length=o)
 (hd:jd+min ns nd*z≤L.length) (hs:js+min ns nd*z≤L.length) (ex:xd=o+jd) (ey:xs=o+js):∃h',s9 env h tys (.slice b xd nd cd op) (.slice b xs ns cq oq)=some (.int .i64 ((min ns nd:Nat):Int),h')∧Iw h h' b (.cells (pre++zs .i64 (aR L jd js (min ns nd*z))++post) e false)∧h'.nx=h.nx:=by
 subst ex;subst ey;subst ho
 have hl:(pre++zs .i64 L++post).length=pre.length+L.length+post.length:=by rw[List.length_append,List.length_append,fB]
 have new:=Ut L pre post hs
 have lz:(zs .i64 ((L.drop js).take (min ns nd*z))).length=min ns nd*z:=by rw[fB,List.length_take,List.length_drop];omega
 have sf:=qp pre post ((L.drop js).take (min ns nd*z)) L jd (by rw[List.length_take,List.length_drop];omega)
 have hc:aR L jd js (min ns nd*z)=L.take jd++(L.drop js).take (min ns nd*z)++L.drop (jd+((L.drop js).take (min ns nd*z)).length):=by
  rw[aR,if_pos ⟨hd,hs⟩]
  congr 2
  rw[List.length_take,List.length_drop];omega
 have c:=j9 (o:= .cells (pre++zs .i64 (aR L jd js (min ns nd*z))++post) e false) y hg
 refine ⟨_,?_,c,rfl⟩
 have hf:fA h z (min ns nd) (.slice b (pre.length+js) ns cq oq)=some (zs .i64 ((L.drop js).take (min ns nd*z))):=by
  simp only[fA,hg]
  rw[new,if_pos (Nat.min_le_left _ _)]
  split
  · rename_i h0;rw[h0,Nat.zero_mul];rfl
  · rw[if_pos o!]
 simp only[s9,t0,ht,rf,hz,hf,hg]
 rw[if_pos ⟨by rw[lz,hl];omega,vL _⟩,sf,hc]
theorem cU {h:au} {b:Nat} (y:Tidy h) (n:h.nx≤b):h.get b=none:=by
 cases e:h.get b with
 | none=>rfl
 | some o=>have:=y _ _ e;omega
theorem fP {h0 h h':au} {b:Nat} {o:aM} (c:Iw h h' b o) (a:Has h0 h) (n:h0.get b=none):Has h0 h':=fun i x g=>c.2.2 i x (fun e=>by subst e;rw[n] at g;cases g) (a i x g)
theorem mM {h:au} {b:Nat} {o:aM} (y:Tidy h) (g:h.get b=some o):∃hw,Tidy hw∧hw.nx=h.nx∧hw.get b=none∧Has hw h∧∀i,i≠b→hw.get i=h.get i:=
 ⟨h.put b none,fun i x q=>by
  by_cases e:i=b
  · subst e;rw[au.du] at q;cases q
  · rw[au.b5 (Ne.symm e)] at q;exact y i x q,rfl,au.du _,fun i x q=>by
  by_cases e:i=b
  · subst e;rw[au.du] at q;cases q
  · rw[au.b5 (Ne.symm e)] at q;exact q,fun i e=>au.b5 (Ne.symm e) _⟩
theorem eU {h0 h hw:au} {b:Nat} (a:Has h0 h) (n:h0.get b=none) (k:∀i,i≠b→hw.get i=h.get i):Has h0 hw:=fun i x g=>(k i (fun e=>by subst e;rw[n] at g;cases g)).trans (a i x g)
end
theorem l! {p:Prop} (h:p:=by first | omega | (simp only[List.length_set,List.length_replicate,vK]<;>omega)):p:=h
noncomputable def Cd:Code:=(Tryz.f79.body).getD .skip
theorem ID:Tryz.f79.body=some Cd:=by kernel_rfl
def ct (ay:Int):List Int:=(List.replicate 322 0++[1,ay])
theorem IE {d:Nat} {h:au} (ay:Int) (bW:Tidy h):cR (d+1) (.fn 79) [(Zi ay)] h= .ret (AV.agg (zs .i64 (ct ay))) h:=by
 obtain ⟨h1,bM,cx,jc,aQ,cA⟩:=j_ bW (aM.cells (List.replicate 323 (Zi 0)++[(Zi 0)]) 148 false)
 have bt:Has h h1:=cA
 obtain ⟨h2,ahg,uQ,Yv,gq,aeR⟩:=qL (t:=148) (n:=324) (i:=h.nx) (L:=(List.replicate 322 (Zi 0)++[(Zi 1),(Zi ay)])) cx aQ k! rfl rfl k!
 have kp:Has h h2:=Has.ea bt aeR bW o!
 have e:ct ay=(List.replicate 322 0++[1,ay]):=by simp only[ct,cond_true,cond_false]
 rw[e]
 exact aD rfl (BK (a:=2) (t:=148) (i:=h.nx) Tryz.func79 ID rfl (.inr rfl) (pk (d) _ _ h _ h2 (NN bM (fun i=>(Pt i))<|CN 2<|SS ahg<|ZZ) k!) k! (DV gq k!)) kp rfl
end Go.Proofs.aP
