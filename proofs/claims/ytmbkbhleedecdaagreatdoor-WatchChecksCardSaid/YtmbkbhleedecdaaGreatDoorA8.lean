import Derived.Test.YtmbkbhleedecdaaGreatDoorA7
import Derived.Test.YtmbkbhleedecdaaGreatDoorA6
set_option linter.unusedVariables false
set_option linter.unusedSimpArgs false
section
namespace Go.Ab
variable {E:Env} {M0:Fa.HV}
theorem wY.unique {call:a_} {f:FuncId} {args:List AV} {h h1 h2:ax} {v1 v2:AV} (a:wY E call f args h v1 h1) (b:wY E call f args h v2 h2):v1=v2∧h1=h2:=by
 obtain ⟨n,a⟩:=a
 obtain ⟨m,b⟩:=b
 have:=(a (n+m) (by omega)).symm.trans (b (n+m) (by omega))
 simpa using this
def AV.within (nx:Nat):Nat→AV→Bool
 | 0,_=>false
 | n+1,x=>match x with
   | .bool _ | .int .. | .str _ | .dc | .aX | .dw | .nilFunc | .nilIface | .eR=>true
   | .ptr i _=>decide (i<nx)
   | .slice i _ _ _ _=>decide (i<nx)
   | .map i=>decide (i<nx)
   | .iface _ v=>AV.within nx n v
   | .agg cs=>cs.all (AV.within nx n)
   | .tuple cs=>cs.all (AV.within nx n)
   | _=>false
theorem VR.within {φ φ':Ph} {nx:Nat} (ho:∀i,i<nx→φ' i=φ i):∀(n:Nat) {x:AV} (_:AV.within nx n x=true) {y:Value},VR φ' x y→VR φ x y
 | 0,_,h,_,_=>by cases h
 | n+1,x,h,y,hv=>by
   have ih:= @VR.within φ φ' nx ho n
   cases hv with
   | bool b=>exact .bool b
   | int k m=>exact .int k m
   | str s=>exact .str s
   | dc=>exact .dc
   | aX=>exact .aX
   | dw=>exact .dw
   | nilFunc=>exact .nilFunc
   | nilIface=>exact .nilIface
   | eR a c=>exact .eR a c
   | ptr o hl=>rw[ho _ (of_decide_eq_true h)] at hl;exact .ptr o hl
   | slice o len cap op hl=>rw[ho _ (of_decide_eq_true h)] at hl;exact .slice o len cap op hl
   | map hl=>rw[ho _ (of_decide_eq_true h)] at hl;exact .map hl
   | iface t v v' h'=>exact .iface t v v' (ih (by simpa [AV.within] using h) h')
   | agg cs gN hl hc=>
     refine .agg cs gN hl fun i x y a b=>ih ?_ (hc i x y a b)
     simp only[AV.within,List.all_eq_true] at h
     exact h x (List.mem_of_getElem? a)
   | tuple cs gN hl hc=>
     refine .tuple cs gN hl fun i x y a b=>ih ?_ (hc i x y a b)
     simp only[AV.within,List.all_eq_true] at h
     exact h x (List.mem_of_getElem? a)
   | _=>cases h
theorem jZ.L7 {f:FuncId} {args:List AV} {h h':ax} {v:AV} (r:jZ E f args h v h') (hs:Has h h') (hv:AV.within h.nx 20 v=true):jZ E f args h v h:=fun φ w vs ok hl=>by
 obtain ⟨h1,h2⟩:=r φ w vs ok hl
 refine ⟨h1,fun cs=>?_⟩
 obtain ⟨φ',w',v',fr,x1,x2,x3,x4⟩:=h2 cs
 exact ⟨φ,w',v',fr,x1.within x3.old 20 hv,ok.forget x3.ext x2 hs,x3.forget,x4⟩
open Classical in
noncomputable def fB (E:Env) (M0:Fa.HV):Nat→a_
 | 0=>Bo M0
 | d+1=>fun F args h=>match F with
   | .ze _=> .fail "" none
   | .fn f=>match M0 f args h with
     | some p=> .ret p.1 p.2
     | none=>
       if hx:∃v,∃h',wY E (fB E M0 d) f args h v h'∧Has h h'∧AV.within h.nx 20 v=true then .ret hx.choose h
       else if hy:∃p:AV×ax,wY E (fB E M0 d) f args h p.1 p.2 then .ret hy.choose.1 hy.choose.2 else .fail "" none
theorem BA (hE:kn E) (hM:Fa.Fs E M0):∀d,hS E (fB E M0 d)
 | 0=>Nf hM
 | d+1=>by
   have ih:=BA hE hM d
   have key:∀{f:FuncId} {args:List AV} {h:ax} {o:iQ},fB E M0 (d+1) (.fn f) args h=o→(∃v h',o= .ret v h'∧jZ E f args h v h')∨o= .fail "" none:=by
    intro f args h o e
    simp only[fB] at e
    split at e
    · rename_i p hp
      exact .inl ⟨_,_,e.symm,hM _ _ _ _ _ hp⟩
    · split at e
      · rename_i hx
        obtain ⟨h',⟨n,h1⟩,h2,h3⟩:=hx.choose_spec
        exact .inl ⟨_,_,e.symm,jZ.L7 ((pj hE n ih).1 _ _ _ _ _ (h1 n (Nat.le_refl n))) h2 h3⟩
      · split at e
        · rename_i hy
          obtain ⟨n,h1⟩:=hy.choose_spec
          exact .inl ⟨_,_,e.symm,(pj hE n ih).1 _ _ _ _ _ (h1 n (Nat.le_refl n))⟩
        · exact .inr e.symm
   refine ⟨fun F args h v h' e=>?_,fun F args h v h' e=>?_⟩
   · cases F with
     | ze l=>cases e
     | fn f=>
       rcases key e with ⟨w,k,h1,h2⟩ | h1
       · cases h1;exact h2.any
       · cases h1
   · cases F with
     | ze l=>cases e
     | fn f=>
       rcases key e with ⟨w,k,h1,h2⟩ | h1
       · cases h1
       · cases h1
theorem aw {d:Nat} {f:FuncId} {args:List AV} {h h':ax} {v:AV} (hm:M0 f args h=none) (hd:wY E (fB E M0 d) f args h v h') (hh:Has h h') (hv:AV.within h.nx 20 v=true):fB E M0 (d+1) (.fn f) args h= .ret v h:=by
 simp only[fB,hm]
 have hx:∃v,∃h',wY E (fB E M0 d) f args h v h'∧Has h h'∧AV.within h.nx 20 v=true:=⟨v,h',hd,hh,hv⟩
 rw[dif_pos hx]
 obtain ⟨k,h1,_,_⟩:=hx.choose_spec
 rw[(h1.unique hd).1]
theorem D5 {d:Nat} {f:FuncId} {args:List AV} {h h':ax} {v:AV} (hm:M0 f args h=none) (hd:wY E (fB E M0 d) f args h v h') (hv:¬(Has h h'∧AV.within h.nx 20 v=true)):fB E M0 (d+1) (.fn f) args h= .ret v h':=by
 simp only[fB,hm]
 have hx:¬∃v,∃h',wY E (fB E M0 d) f args h v h'∧Has h h'∧AV.within h.nx 20 v=true:=by
  rintro ⟨w,k,h1,h2,h3⟩
  obtain ⟨rfl,rfl⟩:=h1.unique hd
  exact hv ⟨h2,h3⟩
 have hy:∃p:AV×ax,wY E (fB E M0 d) f args h p.1 p.2:=⟨(v,h'),hd⟩
 rw[dif_neg hx,dif_pos hy]
 obtain ⟨h1,h2⟩:=hy.choose_spec.unique hd
 rw[h1,h2]
theorem kS {d:Nat} {f:FuncId} {args:List AV} {h h':ax} {v:AV} {p:Nat} {o x:aK} (hm:M0 f args h=none) (hd:wY E (fB E M0 d) f args h v h') (c:n5 h h' p o) (hy:Tidy h) (hg:h.get p=some x) (hn:h'.nx=h.nx):
 ∃hk,fB E M0 (d+1) (.fn f) args h= .ret v hk∧n5 h hk p o∧hk.nx=h.nx:=by
 by_cases hq:Has h h'∧AV.within h.nx 20 v=true
 · refine ⟨h,aw hm hd hq.1 hq.2,⟨hy,?_,fun i y _ g=>g⟩,rfl⟩
   have:=hq.1 p x hg
   rw[c.2.1] at this
   rw[hg];exact this.symm
 · exact ⟨h',D5 hm hd hq,c,hn⟩
theorem H' (hE:kn E) (hM:Fa.Fs E M0) {d:Nat} {f:FuncId} {args:List AV} {h h':ax} {v:AV} (e:fB E M0 d (.fn f) args h= .ret v h'):jZ E f args h v h':=by
 cases d with
 | zero=>
   simp only[fB,Bo] at e
   split at e
   · rename_i p hp
     cases e
     exact hM _ _ _ _ _ hp
   · cases e
 | succ d=>
   simp only[fB] at e
   split at e
   · rename_i p hp
     cases e
     exact hM _ _ _ _ _ hp
   · split at e
     · rename_i hx
       cases e
       obtain ⟨h',⟨n,h1⟩,h2,h3⟩:=hx.choose_spec
       exact jZ.L7 ((pj hE n (BA hE hM d)).1 _ _ _ _ _ (h1 n (Nat.le_refl n))) h2 h3
     · split at e
       · rename_i hy
         cases e
         obtain ⟨n,h1⟩:=hy.choose_spec
         exact (pj hE n (BA hE hM d)).1 _ _ _ _ _ (h1 n (Nat.le_refl n))
       · cases e
end Go.Ab
end
section
namespace Go.Ab
variable {E:Env}
theorem wrap_u64 (n:Nat):IntKind.u64.wrap (n:Int)=((n%18446744073709551616:Nat):Int):=by
 show (if (false&&decide ((n:Int)%2^64≥2^63))=true then (n:Int)%2^64 - 2^64 else (n:Int)%2^64)=_
 rw[if_neg (by simp)]
 omega
theorem sL (t:TypeId) (c d:Bool) (x s:Nat) (j:IntKind) (hs:s≤64):bu E .shr t c d (some (.int .u64 (x:Int))) (some (.int j (s:Int)))=some (.int .u64 ((x/2^s:Nat):Int)):=by
 have h1:min s 64=s:=by omega
 have h2:((x:Int).fdiv (2^s))=((x/2^s:Nat):Int):=by
  rw[Int.fdiv_eq_ediv_of_nonneg _ (Int.pow_nonneg (by decide))]
  norm_cast
 simp only[bu,jG,Int.toNat_natCast]
 rw[if_neg (by omega)]
 show some (AV.int .u64 ((x:Int).fdiv (2^(min s 64))))=_
 rw[h1,h2]
theorem Ia {t:TypeId} {c d:Bool} {a b:Nat} (hb:b≠0) (ha:a<18446744073709551616):bu E .quo t c d (some (.int .u64 (a:Int))) (some (.int .u64 (b:Int)))=some (.int .u64 ((a/b:Nat):Int)):=by
 have:a/b≤a:=Nat.div_le_self _ _
 exact Bu (by omega) (by rw[←Int.ofNat_tdiv,wrap_u64,Nat.mod_eq_of_lt (by omega)])
theorem Ib {t:TypeId} {c d:Bool} {a b:Nat} (hb:b≠0):bu E .rem t c d (some (.int .u64 (a:Int))) (some (.int .u64 (b:Int)))=some (.int .u64 ((a%b:Nat):Int)):=
 Bv (by omega) (by rw[←Int.ofNat_tmod])
end Go.Ab
end
section
namespace Go.Ab
variable {E:Env} {M0:Fa.HV}
structure bW (h h':ax):Prop where
 y:Tidy h'
 a:Has h h'
 n:h.nx≤h'.nx
theorem bW.refl {h:ax} (y:Tidy h):bW h h:=⟨y,Has.refl h,Nat.le_refl _⟩
theorem bW.trans {a b c:ax} (x:bW a b) (y:bW b c):bW a c:=⟨y.y,x.a.trans y.a,Nat.le_trans x.n y.n⟩
theorem BD {d:Nat} {f:FuncId} {args:List AV} {h h':ax} {v:AV} (hm:M0 f args h=none) (hd:wY E (fB E M0 d) f args h v h'):
 ∃hk,fB E M0 (d+1) (.fn f) args h= .ret v hk∧(hk=h'∨(hk=h∧Has h h')):=by
 by_cases hv:Has h h'∧AV.within h.nx 20 v=true
 · exact ⟨h,aw hm hd hv.1 hv.2,.inr ⟨rfl,hv.1⟩⟩
 · exact ⟨h',D5 hm hd hv,.inl rfl⟩
theorem cq {h:ax} {p:Nat} {x o:aK} (y:Tidy h) (g:h.get p=some x):n5 h (h.put p (some o)) p o:=
 ⟨fun i z hz=>by
  by_cases e:i=p
  · subst e;exact y _ _ g
  · rw[ax.bP (Ne.symm e)] at hz;exact y _ _ hz,
  ax.cn _,fun i z hi hz=>by rw[ax.bP (Ne.symm hi)];exact hz⟩
def Kept (p:Nat) (h h':ax):Prop:=∀i x,i≠p→h.get i=some x→h'.get i=some x
theorem Kept.refl (p:Nat) (h:ax):Kept p h h:=fun _ _ _ g=>g
theorem Kept.trans {p:Nat} {a b c:ax} (x:Kept p a b) (y:Kept p b c):Kept p a c:=fun i o hi g=>y i o hi (x i o hi g)
theorem Has.kept {p:Nat} {h h':ax} (a:Has h h'):Kept p h h':=fun i x _ g=>a i x g
theorem Kept.store {h h':ax} {t e:TypeId} {i o:Nat} {cs:List AV} {v:AV} (y:Tidy h) (s:bY E h t (.ptr i o) v=some h') (g:h.get i=some (.cells cs e false)):Kept i h h':=fun _ _ hj gj=>Bx y s g hj gj
theorem eY.kept {h h':ax} {k:IntKind} {e:TypeId} {av:AV} {l:List Nat} {p:Nat} (x:eY E h k e av l) (c:Kept p h h') (ho:Off p av):eY E h' k e av l:=by
 refine ⟨⟨x.at_.size,x.at_.cells,x.at_.small,x.at_.lens,x.at_.block.imp id fun ⟨p',o',m,c',b,C,f,ro,h1,h0,h2,h3⟩=>⟨p',o',m,c',b,C,f,ro,h1,h0,c p' _ (fun e=>?_) h2,h3⟩⟩,x.agg,x.known⟩
 subst e
 exact ho _ _ _ _ h1
theorem zE (k:IntKind) (l:List Nat):(bE k l).all AV.scalar=true:=by
 simp [bE,AV.scalar]
theorem eY.rQ {h:ax} {k:IntKind} {e:TypeId} {av:AV} {l:List Nat} (x:eY E h k e av l):rQ av=some l.length:=by
 rcases x.known with rfl | ⟨p,o,n,c,b,rfl,_⟩
 · have:=x.len
   rw[sI] at this
   simp only[Option.some.injEq,AV.int.injEq,true_and] at this
   rw[show l.length=0 by omega];rfl
 · rw[x.inv.1];rfl
theorem eY.first {h:ax} {k:IntKind} {e:TypeId} {av:AV} {l:List Nat} (x:eY E h k e av l):g_ h 1 l.length av=some (bE k l):=by
 by_cases hl:l=[]
 · subst hl
   rcases x.known with rfl | ⟨p,o,n,c,b,rfl,_⟩<;>simp [g_,bE]
 rcases x.known with rfl | ⟨p,o,n,c,b,rfl,_⟩
 · have:=x.len
   rw[sI] at this
   simp only[Option.some.injEq,AV.int.injEq,true_and] at this
   exact absurd (List.length_eq_zero_iff.1 (show l.length=0 by omega)) hl
 · obtain ⟨rfl,h2⟩:=x.inv
   obtain ⟨_,C,f,ro,g,hv⟩:=h2 hl
   have hC:o+l.length≤C.length:=by
    have hp:0<l.length:=List.length_pos_iff.2 hl
    have:=hv (l.length - 1) _ (List.getElem?_eq_getElem (show l.length - 1<l.length by omega))
    have:=(List.getElem?_eq_some_iff.1 this).1
    omega
   have h0:¬l.length=0:=fun e=>hl (List.length_eq_zero_iff.1 e)
   simp only[g_,Nat.le_refl,if_true,h0,if_false,g,Nat.mul_one,hC]
   refine congrArg some (List.ext_getElem? fun i=>?_)
   by_cases hi:i<l.length
   · rw[List.getElem?_take_of_lt hi,List.getElem?_drop,hv i _ (List.getElem?_eq_getElem hi),mE (List.getElem?_eq_getElem hi)]
   · rw[List.getElem?_eq_none (by simp;omega),List.getElem?_eq_none (by rw[fp];omega)]
theorem LQ {h:ax} {k:IntKind} {e t:TypeId} {tys:Array TypeId} {d s:AV} {l:List Nat} {p o n:Nat} {C:List AV} {f:TypeId} (h0:tys[0]? =some t) (ht:E.P.underlying t=some (.slice e)) (hs:b_ E e=some 1) (w:SI h d p o n C f) (x:eY E h k e s l) (hn:l.length≤n):
 uZ E h tys d s=some (.int .i64 (l.length:Nat),h.put p (some (.cells (setFrom C o (bE k l)) f false))):=by
 obtain ⟨c,b,rfl,hc⟩:=w.is
 have hf:=w.fits
 have AT:g_ h 1 (min l.length n) s=some (bE k l):=by
  rw[Nat.min_eq_left hn];exact x.first
 simp only[uZ,h0,ht,x.rQ,hs,AT,w.get]
 rw[if_pos ⟨by rw[fp];omega,zE k l⟩,Nat.min_eq_left hn]
theorem Nk {h:ax} {t e:TypeId} {p i:Nat} {k:IntKind} {l:List Nat} {ro:Bool} (ht:fT E t=some false) (hg:h.get p=some (.cells (bE k l) e ro)) (hi:i<l.length):bS E h t (.ptr p i)=some (.int k ((l.getD i 0:Nat):Int)):=by
 simp only[bS,hg,iY,ht]
 exact mE (Ui hi)
theorem Qb (k:IntKind) (l:List Nat) (i v:Nat):setFrom (bE k l) i [.int k (v:Int)]=bE k (l.set i v):=by
 show (bE k l).set i _=_
 simp [bE,List.map_set]
theorem J_ {h:ax} {t e:TypeId} {p i v:Nat} {k:IntKind} {l:List Nat} (hs:b_ E t=some 1) (hg:h.get p=some (.cells (bE k l) e false)) (hi:i<l.length):
 bY E h t (.ptr p i) (.int k (v:Int))=some (h.put p (some (.cells (bE k (l.set i v)) e false))):=by
 simp only[bY,hg,hs]
 rw[if_pos ⟨rfl,by rw[fp];omega,rfl⟩]
 rw[show (AV.int k (v:Int)).cells=[.int k (v:Int)] from rfl,Qb]
theorem append_nil {h:ax} {k:IntKind} {e s xt:TypeId} {tys:Array TypeId} {bytes:Nat} {z x:AV} {m:List Nat} (h0:tys[0]? =some s) (h1:tys[1]? =some xt) (hs:E.P.underlying s=some (.slice e)) (hx:E.P.underlying xt=some (.slice e)) (SJ:b_ E e=some 1) (hb:iu E e=some bytes) (SK:gz E e=some z) (hz:z.cells.length=1) (h8:bytes≤15) (x1:eY E h k e x m) (hm:m≠ []) (hl:m.length≤1073741824):
 ∃h',gq E h tys .aX x=some (.slice h.nx 0 m.length m.length true,h')∧h.new (.cells (bE k m) e false)=some h':=by
 obtain ⟨h',n⟩:=FC (h:=h) (.cells (bE k m) e false)
 refine ⟨h',?_,n⟩
 have hn:¬m.length=0:=fun e=>hm (List.length_eq_zero_iff.1 e)
 have ED:(4*m.length+4096)*(bytes+1)≤1099511627776:=Nat.le_trans (Nat.mul_le_mul (show 4*m.length+4096≤68719476736 by omega) (show bytes+1≤16 by omega)) (by decide)
 simp only[gq,h0,h1,hs,hx,pM,SJ,hb,x1.rQ,x1.first,SK,hz,zE,fp,Nat.mul_one,hn,ED,n,if_true,if_false,and_self,Bool.false_eq_true]
theorem D6 {t:TypeId} {s:List UInt8} {m n:Nat} {y z:Int} (ht:E.P.underlying t=some .string) (hy:y=(m:Nat)) (hz:z=(n:Nat)) (hm:m≤n) (hn:n≤s.length):dx E t (.str s) (some (.int .i64 y)) (some (.int .i64 z)) none=some (.str ((s.drop m).take (n - m))):=by
 subst hy hz
 simp only[dx,ht,nu (len:=s.length) (cap:=s.length) (lo:=m) (hi:=n) (some (.int .i64 (m:Nat))) (some (.int .i64 (n:Nat))) (.inl rfl) (.inl rfl) hm hn]
theorem cx {e:TypeId} {p o n c i:Nat} {op:Bool} {z:Int} (hs:b_ E e=some 1) (hi:i<n) (hz:z=(i:Nat)):b8 E (some (.slice e)) (some (.slice p o n c op)) (some (.int .i64 z))=some (.ptr p (o+i)):=by
 subst hz
 have:=nV (E:=E) (e:=e) (i:=p) (o:=o) (len:=n) (c:=c) (z:=i) (b:=op) hs hi
 rw[Nat.mul_one] at this
 exact this
theorem Ic {C:List AV} {o i v:Nat} {k:IntKind} {l:List Nat} (hf:o+l.length≤C.length) (hi:i<l.length):setFrom (setFrom C o (bE k l)) (o+i) [.int k (v:Int)]=setFrom C o (bE k (l.set i v)):=by
 show (setFrom C o (bE k l)).set (o+i) _=_
 apply List.ext_getElem?
 intro j
 rw[List.getElem?_set,hH,fl,fl,fp,fp,List.length_set]
 by_cases hj:o+i=j
 · subst hj
   rw[if_pos rfl,if_pos (by omega),if_pos ⟨by omega,by omega,by omega⟩,Nat.add_sub_cancel_left]
   simp [bE,hi]
 · rw[if_neg hj]
   split
   · rename_i h3
     have:(bE k (l.set i v))[j - o]? =(bE k l)[j - o]? :=by
      simp only[bE,List.getElem?_map,List.getElem?_set]
      rw[if_neg (by omega)]
     rw[this]
   · rfl
theorem bU {h:ax} {t f:TypeId} {p o i v:Nat} {k:IntKind} {l:List Nat} {C:List AV} (hs:b_ E t=some 1) (hf:o+l.length≤C.length) (hg:h.get p=some (.cells (setFrom C o (bE k l)) f false)) (hi:i<l.length):
 bY E h t (.ptr p (o+i)) (.int k (v:Int))=some (h.put p (some (.cells (setFrom C o (bE k (l.set i v))) f false))):=by
 simp only[bY,hg,hs]
 rw[if_pos ⟨rfl,by rw[hH];omega,rfl⟩]
 rw[show (AV.int k (v:Int)).cells=[.int k (v:Int)] from rfl,Ic hf hi]
theorem Xk {C:List AV} {o:Nat} {k:IntKind} {l:List Nat} (x:Holds k C o l):setFrom C o (bE k l)=C:=by
 apply List.ext_getElem?
 intro j
 rw[fl]
 split
 · rename_i h3
   rw[fp] at h3
   have:=x (j - o) _ (List.getElem?_eq_getElem (show j - o<l.length by omega))
   rw[show o+(j - o)=j by omega] at this
   rw[this,mE (List.getElem?_eq_getElem (show j - o<l.length by omega))]
 · rfl
theorem Qc {o:Nat} {k:IntKind} {R l:List Nat} (hf:o+l.length≤R.length):setFrom (bE k R) o (bE k l)=bE k (R.take o++l++R.drop (o+l.length)):=by
 apply List.ext_getElem?
 intro j
 rw[fl,fp,fp]
 simp only[bE,List.getElem?_map]
 split
 · rename_i h3
   rw[List.append_assoc,List.getElem?_append_right (by simp;omega),List.getElem?_append_left (by simp;omega)]
   congr 2
   simp;omega
 · rename_i h3
   congr 1
   by_cases hj:j<o
   · rw[List.append_assoc,List.getElem?_append_left (by simp;omega),List.getElem?_take_of_lt hj]
   · by_cases hk:j<R.length
     · have:¬j<o+l.length:=fun h=>h3 ⟨by omega,by omega,by omega⟩
       rw[List.getElem?_append_right (by simp;omega),List.getElem?_drop]
       congr 1
       simp;omega
     · rw[List.getElem?_eq_none (by omega),List.getElem?_eq_none (by simp;omega)]
end Go.Ab
end
section
namespace Go.Ab
variable {E:Env}
structure Pk (al:List mX) (p0 ps:List Prop):Prop where
 ok:lQ p0→lQ ps
section
variable {al:List mX} {p0 ps:List Prop}
theorem ZZ {p:List Prop}:Pk [] p p:=⟨id⟩
theorem CC (k:Pk al p0 ps):Pk (.c::al) p0 ps:=⟨k.ok⟩
def cs:Nat→List mX→List mX
 | 0,l=>l
 | n+1,l=> .c::cs n l
theorem CN (n:Nat) (k:Pk al p0 ps):Pk (cs n al) p0 ps:=⟨k.ok⟩
theorem HH {P:Prop} (h:P) (k:Pk al (P::p0) ps):Pk al p0 ps:=⟨fun c=>k.ok ⟨h,c⟩⟩
theorem VV {l:Option AV} {x:AV} (h:l=some x) (k:Pk al ((l=some x)::p0) ps):Pk (.v x::al) p0 ps:=⟨fun c=>k.ok ⟨h,c⟩⟩
theorem QQ {l:Option AV} {x:AV} (h:l=some x) (k:Pk al ((l=some x)::p0) ps):Pk (.q x::al) p0 ps:=⟨fun c=>k.ok ⟨h,c⟩⟩
theorem MM {l:Option AV} {x:AV} (h:l=some x) (k:Pk al ((l=some x)::p0) ps):Pk (.m x::al) p0 ps:=⟨fun c=>k.ok ⟨h,c⟩⟩
theorem TT (k:Pk al ((true=true)::p0) ps):Pk (.b true::al) p0 ps:=⟨fun c=>k.ok ⟨rfl,c⟩⟩
theorem FF (k:Pk al ((false=false)::p0) ps):Pk (.b false::al) p0 ps:=⟨fun c=>k.ok ⟨rfl,c⟩⟩
theorem BB {u v:Bool} (h:u=v) (k:Pk al ((u=v)::p0) ps):Pk (.b v::al) p0 ps:=⟨fun c=>k.ok ⟨h,c⟩⟩
theorem EE {call:a_} {f:Fn} {args:List AV} {h h':ax} {x:AV} (e:call f args h= .ret x h') (k:Pk al ((call f args h= .ret x h')::p0) ps):Pk (.e x h'::al) p0 ps:=⟨fun c=>k.ok ⟨e,c⟩⟩
theorem SS {h h':ax} {t:TypeId} {a v:AV} (s:bY E h t a v=some h') (k:Pk al ((AV.undef=AV.undef∧bY E h t a v=some h')::p0) ps):Pk (.e AV.undef h'::al) p0 ps:=⟨fun c=>k.ok ⟨⟨rfl,s⟩,c⟩⟩
theorem PP {l:Option (AV×ax)} {x:AV} {h':ax} (e:l=some (x,h')) (k:Pk al ((l=some (x,h'))::p0) ps):Pk (.e x h'::al) p0 ps:=⟨fun c=>k.ok ⟨e,c⟩⟩
theorem NN {h h':ax} {obj:aK} (n:h.new obj=some h') (f:Nat→AV) (k:Pk al ((∃mk:Nat→AV,some (obj,f)=some (obj,mk)∧mk h.nx=f h.nx)::(h.new obj=some h')::p0) ps):Pk (.a obj (f h.nx) h'::al) p0 ps:=⟨fun c=>k.ok ⟨⟨f,rfl,rfl⟩,n,c⟩⟩
theorem LL {call:a_} {b:Code} {s s':St} {e:jY} (ev:Ev E call b s e s') (k:Pk al ((Ev E call b s e s')::p0) ps):Pk (.l e s'::al) p0 ps:=⟨fun c=>k.ok ⟨ev,c⟩⟩
end
@[irreducible] def D8:R→List AV
  | .at _ s _ _=>s.ts
  | .bad=> []
theorem VL {call:a_} {c:Code} {ts:List AV} {h h':ax} {ds:List ny} {rc:RC} {n:Nat} {e:jY} {al:List mX} {ps:List Prop} (k:Pk al [] ps) (hr:run E call n c ⟨ts,h,ds,rc⟩ al []= .at e ⟨D8 (run E call n c ⟨ts,h,ds,rc⟩ al []),h',ds,rc⟩ [] ps):Ev E call c ⟨ts,h,ds,rc⟩ e ⟨D8 (run E call n c ⟨ts,h,ds,rc⟩ al []),h',ds,rc⟩:=Bs hr (k.ok trivial)
theorem sM {call:a_} {c:Code} {s s':St} {n:Nat} {e:jY} {al:List mX} {ps:List Prop} (k:Pk al [] ps) (hr:run E call n c s al []= .at e s' [] ps):Ev E call c s e s':=Bs hr (k.ok trivial)
def rx (x:Nat→AV):Nat→Nat→List AV→List AV
 | _,0,l=>l
 | i,n+1,l=>x i::rx x (i+1) n l
def jg:Nat→List AV
 | 0=> []
 | n+1=>AV.undef::jg n
end Go.Ab
end
