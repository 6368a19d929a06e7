import Derived.Laws.BitsLemmas
import Derived.Laws.RangeString
import Derived.Defers
import Derived.AtR
import Derived.RangeFuncNested
import Derived.Test.YtkffioplnoajdaaGreatA1
set_option linter.unusedVariables false
set_option linter.unusedSimpArgs false
section
namespace Go.Ab
variable {E:Env}
def Qt (E:Env) (φ:Ph) (h:au) (w:World) (r:Result Value) (v:AV) (h':au):Prop:=
 ∃φ' w' v',r= .ok v' w'∧VR φ' v v'∧OK E φ' h' w'∧Fr φ h w φ' h' w'
theorem Dg {φ:Ph} {vs:List AV} {rY:List Value} (h:LR φ vs rY) (hs:vs.all AV.scalar=true):∀v∈rY,v.oneCell'=true:=by
 intro v hv
 obtain ⟨i,hi⟩:=List.getElem?_of_mem hv
 have hil:i<vs.length:=by rw[h.1];exact (List.getElem?_eq_some_iff.1 hi).1
 have:=h.2 i vs[i] v (by simp [hil]) hi
 exact this.scalar (List.all_eq_true.1 hs _ (List.getElem_mem hil))
theorem Ap {φ:Ph} {h:au} {w:World} (ok:OK E φ h w) {i:Nat} {cs:List AV} {e:TypeId} (hg:h.get i=some (.cells cs e false)) {l:Loc} (hφ:φ i=some l)
 {vs:List AV} {rY:List Value} (hl:LR φ vs rY) (o:Nat) (hle:o+vs.length≤cs.length) (Fy:vs.all AV.scalar=true):
 ∃w',(storeCells ⟨l.g6,l.off+o,none⟩ rY).run E.P w= .ok () w'∧OK E φ (h.put i (some (.cells (setFrom cs o vs) e false))) w'∧
  Fr φ h w φ (h.put i (some (.cells (setFrom cs o vs) e false))) w':=by
 obtain ⟨C,e',lo,hi,hb,hc⟩:=ok.cells hg hφ
 have JN:=hc.size
 have hlen:=hl.1
 have iv:=wa (P:=E.P) hb (l.off+o) rY (by omega) (fun k h1 h2=>hc.free rfl k (by omega) (by omega)) (Dg hl Fy)
 refine ⟨_,iv,?_⟩
 obtain ⟨h1,h2,h3⟩:=ue rY w l.g6 (l.off+o)
 refine ok.change hg rfl hφ ?_ (fun c eY=>lj rY (Ne.symm eY) _) (qG _ _ _ _) h1 h2 h3
 refine ⟨lh C (l.off+o) rY,e',lo,hi,qF rY hb _,?_,fun k x hk=>?_,fun _ k a b=>hc.free rfl k a (by rw[pA] at b;exact b),fun h=>by cases h⟩
 · rw[pA,uc];exact JN
 · rw[jg] at hk
   rw[wR]
   split at hk
   · rename_i ZT
     rw[if_pos (by omega)]
     obtain ⟨y,hy,hr⟩:=hl.get hk
     exact ⟨y,by rw[show l.off+k -(l.off+o)=k - o by omega];exact hy,hr⟩
   · rename_i ZT
     have hkl:k<cs.length:=(List.getElem?_eq_some_iff.1 hk).1
     rw[if_neg (by omega)]
     exact hc.val k x hk
theorem MF {φ:Ph} {h h':au} {w:World} (ok:OK E φ h w) {t:TypeId} {av xv:AV} {a' x':Value} (ha:VR φ av a') (hx:VR φ xv x') (e:dL E h t av xv=some h'):
 ∃w',(Instr.storeAt t a' x').run E.P w= .ok () w'∧OK E φ h' w'∧Fr φ h w φ h' w':=by
 unfold dL at e
 split at e
 · rename_i i o
   cases ha with
   | @ptr _ l _ hφ=>
   split at e
   · rename_i cs el n hg hn
     split at e
     · rename_i hc
       simp at e;subst e
       obtain ⟨w',iv,qI,tx⟩:=Ap ok hg hφ hx.cells o (by omega) hc.2.2
       refine ⟨w',?_,qI,tx⟩
       have hs:x'.cells.size=n:=by have:=hx.cells.1;simp at this;omega
       simp only[Instr.storeAt,Instr.sureAddr,Sem.run_bind,Sem.run_pure,Result.andThen_ok,storeVar,eR hn,hs,ne_eq,not_true_eq_false,if_false,iv]
     · simp at e
   · simp at e
 · simp at e
theorem Dh {φ:Ph} {h:au} {w:World} (ok:OK E φ h w) {size n:Nat} {x:AV} {x':Value} (hx:VR φ x x') {new:List AV} (e:fA h size n x=some new) (hn:rf x=some n∨True):
 ∃tz:List Value,LR φ new tz∧∀w',w'.heap=w.heap→(Builtin.firstCells size n x').run E.P w'= .ok tz.toArray w':=by
 unfold fA at e
 split at e
 · split at e
   · rename_i h0
     simp at e;subst e
     cases hx
     exact ⟨[],LR.nil φ,fun w' _=>by simp [Builtin.firstCells]⟩
   · simp at e
 · split at e
   · rename_i h0
     simp at e;subst e
     cases hx
     exact ⟨[],LR.nil φ,fun w' _=>by subst h0;simp only[Builtin.firstCells,Nat.zero_mul];rfl⟩
   · simp at e
 · rename_i i o len _ _
   split at e
   · split at e
     · rename_i h0
       simp at e;subst e
       cases hx
       exact ⟨[],LR.nil φ,fun w' _=>by subst h0;simp only[Builtin.firstCells,Nat.zero_mul];rfl⟩
     · split at e
       · rename_i cs el ro hg
         split at e
         · rename_i hle
           simp at e;subst e
           cases hx with
           | @slice _ l _ _ _ _ hφ=>
           obtain ⟨C,e',lo,hi,hb,hc⟩:=ok.cells hg hφ
           obtain ⟨vs,hvl,Mg,Bk⟩:=hc.range o (n*size) hle
           refine ⟨vs,Bk,fun w' hw=>?_⟩
           rw[←hw] at hb
           have Dc:=o5 (P:=E.P) hb (l.off+o) vs Mg
           rw[hvl] at Dc
           simp only[Builtin.firstCells,Dc]
         · simp at e
       · simp at e
   · simp at e
 · rename_i s
   split at e
   · rename_i tR
     simp at e;subst e
     generalize MB:AV.str s=s0 at hx
     cases hx<;>cases MB
     rename_i s'
     refine ⟨(s'.data.toList.take n).map (fun b=>Value.int .u8 b.toNat),⟨by simp,fun i p q hp hq=>?_⟩,fun w' _=>?_⟩
     · rw[←List.map_take,List.getElem?_map] at hp
       rw[List.getElem?_map] at hq
       cases hb:(s'.data.toList.take n)[i]? with
       | none=>rw[hb] at hp;simp at hp
       | some b=>
         rw[hb] at hp hq
         simp at hp hq
         subst hp;subst hq
         exact .int _ _
     · simp only[Builtin.firstCells,Sem.run_pure]
       congr 1
       apply Array.ext'
       simp
   · simp at e
 · simp at e
end Go.Ab
namespace Go.Ab
variable {E:Env}
theorem OK.reuse {φ:Ph} {h h':au} {w w':World} (ok:OK E φ h w) {i:Nat} {o o':aM} {l l':Loc} (hg:h.get i=some o) (JC:o.rw=true) (hl:φ i=some l) (hb:l'.g6=l.g6)
 (hn:(h.put i none).new o'=some h') (ho:OR E (φ.add h.nx l') o' l' w'.heap[l.g6]?) (uf:∀c,c≠l.g6→w'.heap[c]? =w.heap[c]?) (gz:w'.heap.size=w.heap.size)
 (hos:w'.os=w.os) (JO:w'.tape=w.tape) (rh:w'.output=w.output):
 OK E (φ.add h.nx l') h' w'∧Fr φ h w (φ.add h.nx l') h' w':=by
 obtain ⟨np,hnx,C8,hold⟩:=au.mD hn
 have hpn:(h.put i none).nx=h.nx:=rfl
 rw[hpn] at hnx C8 hold
 have Ft:φ h.nx=none:=by
  cases e:φ h.nx with
  | none=>rfl
  | some m=>exact absurd (ok.B6 _ _ e) (Nat.lt_irrefl _)
 have hle:φ.le (φ.add h.nx l'):=fun j m hm=>by
  unfold Ph.add;split
  · rename_i e;subst e;rw[Ft] at hm;simp at hm
  · exact hm
 have gS:∀j p,h'.get j=some p→(j=h.nx∧p=o')∨(j≠h.nx∧j≠i∧h.get j=some p):=fun j p hj=>by
  by_cases e:j=h.nx
  · subst e;rw[C8] at hj;simp at hj;exact .inl ⟨rfl,hj.symm⟩
  · rw[hold j e] at hj
    by_cases e':i=j
    · subst e';rw[au.du] at hj;simp at hj
    · rw[au.b5 e'] at hj;exact .inr ⟨e,Ne.symm e',hj⟩
 have lk:∀j,j≠h.nx→(φ.add h.nx l') j=φ j:=fun j hj=>by simp [Ph.add,hj]
 have hS:(φ.add h.nx l') h.nx=some l':=by simp [Ph.add]
 refine ⟨⟨fun j m hm=>?_,?_,fun g hg=>hle _ _ (ok.wN g hg),fun j p m hj hm=>?_,fun j k p q m n hj hk hm tw hw hbb=>?_⟩,
  ⟨hle,fun j hj=>lk j (by omega),by omega,hos,JO,rh,Nat.le_of_eq gz.symm,fun b _ hn'=>uf b (fun e=>hn' i o l hg JC hl e.symm),fun j p m hj hr hm=>?_⟩⟩
 · rw[hnx]
   by_cases e:j=h.nx
   · omega
   · rw[lk j e] at hm;have:=ok.B6 j m hm;omega
 · have:=ok.nx;omega
 · rcases gS j p hj with ⟨rfl,rfl⟩ | ⟨eY,HC,rj⟩
   · rw[hS] at hm;simp at hm;subst hm;exact hb▸ho
   · rw[lk j eY] at hm
     rw[uf _ (fun e=>HC (ok.inj j i p o m l rj hg hm hl (.inr JC) e))]
     exact (ok.live j p m rj hm).mono hle
 · rcases gS j p hj with ⟨rfl,rfl⟩ | ⟨eY,hni,rj⟩<;>rcases gS k q hk with ⟨rfl,rfl⟩ | ⟨HC,agD,Fs⟩
   · rfl
   · rw[hS] at hm;simp at hm;subst hm
     rw[lk k HC] at tw
     exact absurd (ok.inj k i q o n l Fs hg tw hl (.inr JC) (hbb.symm.trans hb)) agD
   · rw[hS] at tw;simp at tw;subst tw
     rw[lk j eY] at hm
     exact absurd (ok.inj j i p o m l rj hg hm hl (.inr JC) (hbb.trans hb)) hni
   · rw[lk j eY] at hm;rw[lk k HC] at tw;exact ok.inj _ _ _ _ _ _ rj Fs hm tw hw hbb
 · rcases gS j p hj with ⟨rfl,rfl⟩ | ⟨eY,hni,rj⟩
   · rw[hS] at hm;simp at hm;subst hm;exact .inr ⟨i,o,l,hg,JC,hl,hb.symm⟩
   · rw[lk j eY] at hm;exact .inr ⟨j,p,m,rj,hr,hm,rfl⟩
theorem Gv:∀(rounds c MG:Nat),c<MG→Builtin.growBy MG rounds c≤2*MG+1000
 | 0,c,n,h=>by simp [Builtin.growBy];omega
 | r+1,c,n,h=>by
   simp only[Builtin.growBy]
   split
   · omega
   · by_cases hc:c+(c+768) /4<n
     · exact Gv r _ n hc
     · cases r with
       | zero=>simp only[Builtin.growBy];omega
       | succ r=>simp only[Builtin.growBy];rw[if_pos (by omega)];omega
theorem nextslicecap_le {n c:Nat} (h:c<n):Builtin.nextslicecap n c≤4*n+4096:=by
 unfold Builtin.nextslicecap
 split
 · omega
 · split
   · omega
   · have:=Gv 4 c n h;omega
theorem pD (z:Array Value) (n:Nat):(Builtin.zeroCells z n).size=n*z.size:=by simp [Builtin.zeroCells]
theorem tb {P:Program} {w:World} {sT xT ty elem:TypeId} {xd:TypeDesc} (hs:P.underlying sT=some (.slice elem)) (hx:P.underlying xT=some xd) (Xc:∀k,xd≠ .int k)
 {size bytes n:Nat} (gz:(P.info? elem).map (·.size)=some size) (mE:(P.info? elem).map (·.bytes)=some bytes) {z:Value} (hz:∀w,(zeroValue elem).run P w= .ok z w) (Xd:z.cells.size=size)
 {base:Option Addr} {len cap:Nat} {x':Value} (hn:∀w,(Builtin.lenOf x').run P w= .ok n w) {old new:List Value} (hold:∀w',w'.heap=w.heap→(Builtin.firstCells size len (.slice base len cap)).run P w'= .ok old.toArray w')
 (C8:∀w',w'.heap=w.heap→(Builtin.firstCells size n x').run P w'= .ok new.toArray w') (np:cap<len+n) (Xe:(4*(len+n)+4096)*(bytes+1)≤1099511627776) (WK:old.length=len*size) (SP:new.length=n*size):
 ∃nc:Nat,∃C:Array Value,len+n≤nc∧(∃rest,C.toList=old++new++rest)∧C.size=nc*size∧
  (Builtin.append_ #[sT,xT] ty #[.slice base len cap,x']).run P w= .ok (.slice (some ⟨w.heap.size,0,none⟩) (len+n) nc) (w.drew.alloc (.cells C elem)):=by
 let nc:=(Question.appendCap (len+n) cap elem).cut (w.tape w.drawn (.appendCap (len+n) cap elem))
 have SQ:len+n≤nc:=by show len+n≤len+n+_;omega
 let C:Array Value:=old.toArray++new.toArray++Builtin.zeroCells z.cells (nc -(len+n))
 refine ⟨nc,C,SQ,⟨(Builtin.zeroCells z.cells (nc -(len+n))).toList,by simp [C]⟩,?_,?_⟩
 · simp only[C,Array.size_append,pD,Xd,List.size_toArray,WK,SP]
   rw[←Nat.add_mul,←Nat.add_mul];congr 1;omega
 · obtain ⟨inf,JT,hb⟩:=rk mE w
   obtain ⟨agE,SU,ZR⟩:=rk mE w.drew
   have hxm:(match xd with | .int _=>true | _=>false)=false:=by cases xd<;>first | rfl | exact absurd rfl (Xc _)
   have aa6:¬len+n≤cap:=by omega
   have aa7:=nextslicecap_le np
   have hmul:(4*(len+n)+4096)*(bytes+1)=(4*(len+n)+4096)*bytes+(4*(len+n)+4096):=by rw[Nat.mul_add,Nat.mul_one]
   have MH:¬Builtin.nextslicecap (len+n) cap*bytes>2^48:=by
    have:Builtin.nextslicecap (len+n) cap*bytes≤(4*(len+n)+4096)*bytes:=Nat.mul_le_mul_right _ aa7
    omega
   have aa8:IntKind.i64.max=9223372036854775807:=by decide
   have HK:¬(((len+n:Nat):Int) >IntKind.i64.max):=by rw[aa8];omega
   have o1:=hold w.drew rfl
   have n1:=C8 w.drew rfl
   have z1:=hz w.drew
   have hf:((!false)=true)=True:=by simp
   simp only[Builtin.append_,List.getElem?_toArray,List.getElem?_cons_zero,List.getElem?_cons_succ,Sem.run_bind,Sem.run_pure,Result.andThen_ok,run_underlying hs,run_underlying hx,eR gz,Bool.false_eq_true,if_false,hn,aa6,JT]
   rw[if_neg (fun h=>HK h.1)]
   simp only[Sem.run_bind,JT,hb,Result.andThen_ok]
   rw[if_neg MH]
   simp only[Sem.run_bind,run_choose,Question.forced,Bool.false_eq_true,if_false,World.drew_eq,Result.andThen_ok,SU,run_askRoom,o1,hf,if_true,n1,z1,newRow,run_newObj,World.alloc_eq,Sem.run_pure]
   rfl
theorem rv {P:Program} {w w':World} {sT xT ty elem:TypeId} {xd:TypeDesc} (hs:P.underlying sT=some (.slice elem)) (hx:P.underlying xT=some xd) (Xc:∀k,xd≠ .int k)
 {size n:Nat} (gz:(P.info? elem).map (·.size)=some size) {b O len cap:Nat} {x':Value} (hn:∀w,(Builtin.lenOf x').run P w= .ok n w) {new:List Value}
 (C8:(Builtin.firstCells size n x').run P w= .ok new.toArray w) (hle:len+n≤cap) (kb:(storeCells ⟨b,O+len*size,none⟩ new).run P w= .ok () w'):
 (Builtin.append_ #[sT,xT] ty #[.slice (some ⟨b,O,none⟩) len cap,x']).run P w= .ok (.slice (some ⟨b,O,none⟩) (len+n) cap) w':=by
 have hxm:(match xd with | .int _=>true | _=>false)=false:=by cases xd<;>first | rfl | exact absurd rfl (Xc _)
 have hf:((!false)=true)=True:=by simp
 simp only[Builtin.append_,List.getElem?_toArray,List.getElem?_cons_zero,List.getElem?_cons_succ,Sem.run_bind,Sem.run_pure,Result.andThen_ok,run_underlying hs,run_underlying hx,eR gz,hf,Bool.false_eq_true,if_false,if_true,hn,hle,C8,vt,kb]
theorem yw {φ:Ph} {h h':au} {w:World} (ok:OK E φ h w) {new:List AV} {elem:TypeId} (hn:h.new (.cells new elem false)=some h') {l:List Value} (hl:LR φ new l)
 {size nc n:Nat} (gz:bU E elem=some size) {C:Array Value} {rest:List Value} (hC:C.toList=l++rest) (Sj:C.size=nc*size) (SQ:n≤nc) (hll:l.length=n*size):
 Qt E φ h w (.ok (.slice (some ⟨w.heap.size,0,none⟩) n nc) (w.drew.alloc (.cells C elem))) (.slice h.nx 0 n n true) h':=by
 have SP:new.length=n*size:=by rw[hl.1,hll]
 obtain ⟨qI,tx,hle⟩:=ok.fresh (w':=w.drew.alloc (.cells C elem)) hn ⟨w.heap.size,0,nc - n⟩ (by
  refine ⟨C,elem,0,0,by rw[show (w.drew.alloc (.cells C elem)).heap=w.heap.push (.cells C elem) from rfl];simp,?_,fun k x hk=>?_,fun _ k _ _=>by omega,fun _ _ _=>rfl⟩
  · simp only[f',gz,Option.getD_some,SP,Sj,Nat.zero_add]
    rw[←Nat.add_mul];exact Nat.mul_le_mul_right _ (by omega)
  · obtain ⟨y,hy,hr⟩:=hl.get hk
    have hkl:k<l.length:=(List.getElem?_eq_some_iff.1 hy).1
    refine ⟨y,?_,hr.mono (fun i m hm=>?_)⟩
    · have:C.toList[k]? =some y:=by rw[hC,List.getElem?_append_left hkl];exact hy
      simpa using this
    · unfold Ph.add
      split
      · rename_i e;subst e;exact absurd (ok.B6 _ _ hm) (Nat.lt_irrefl _)
      · exact hm)
  (fun c eY hc=>by
   have:(w.drew.alloc (.cells C elem)).heap[c]? =w.heap[c]? :=by
    rw[show (w.drew.alloc (.cells C elem)).heap=w.heap.push (.cells C elem) from rfl,Array.getElem?_push,if_neg (by simpa using eY)]
   exact this) (by simp) (Nat.le_refl _) rfl rfl rfl
 refine ⟨_,_,_,rfl,?_,qI,tx⟩
 have:=VR.slice (φ:=φ.add h.nx ⟨w.heap.size,0,nc - n⟩) (i:=h.nx) (l:=⟨w.heap.size,0,nc - n⟩) 0 n n true (by simp [Ph.add])
 simp only[hQ,if_true] at this
 rw[show n+(nc - n)=nc by omega] at this
 exact this
theorem Fr.Xf {φ φ':Ph} {h h':au} {w w':World} {i:Nat} (f:Fr φ (h.put i none) w φ' h' w'):Fr φ h w φ' h' w':=by
 have gS:∀j p,(h.put i none).get j=some p→h.get j=some p:=fun j p hj=>by
  by_cases e:i=j
  · subst e;rw[au.du] at hj;simp at hj
  · rw[au.b5 e] at hj;exact hj
 exact ⟨f.ext,f.old,f.nx,f.os,f.tape,f.output,f.size,fun b hb hn=>f.Fq b hb (fun j p m hj=>hn j p m (gS j p hj)),
  fun j p m hj hr hm=>(f.own j p m hj hr hm).imp id (fun ⟨k,q,n,a,b⟩=>⟨k,q,n,gS k q a,b⟩)⟩
theorem pE {φ:Ph} {x:AV} {n:Nat} (h:rf x=some n) {x':Value} (hx:VR φ x x') (P:Program) (w:World):(Builtin.lenOf x').run P w= .ok n w:=by
 cases x<;>simp [rf] at h
 · subst h
   generalize MB:AV.str _=s0 at hx
   cases hx<;>cases MB
   rfl
 · cases hx;subst h;rfl
 · cases hx;subst h;rfl
 · cases hx;subst h;rfl
theorem B9 {P:Program} {w:World} {sT xT ty elem:TypeId} {kx:IntKind} (hs:P.underlying sT=some (.slice elem)) (hx:P.underlying xT=some (.int kx))
 {size bytes:Nat} (gz:(P.info? elem).map (·.size)=some size) (mE:(P.info? elem).map (·.bytes)=some bytes) {z:Value} (hz:∀w,(zeroValue elem).run P w= .ok z w) (Xd:z.cells.size=size)
 {k:IntKind} {n:Int} (hn:0<n) (MI:0<size) (Xe:(4*n.toNat+4096)*(bytes+1)≤1099511627776):
 ∃nc:Nat,∃C:Array Value,n.toNat≤nc∧(∃rest,C.toList=(Builtin.zeroCells z.cells n.toNat).toList++rest)∧C.size=nc*size∧
  (Builtin.append_ #[sT,xT] ty #[.slice none 0 0,.int k n]).run P w= .ok (.slice (some ⟨w.heap.size,0,none⟩) n.toNat nc) (w.drew.alloc (.cells C elem)):=by
 let nc:=(Question.appendCap (0+n.toNat) 0 elem).cut (w.tape w.drawn (.appendCap (0+n.toNat) 0 elem))
 have SQ:n.toNat≤nc:=by show n.toNat≤0+n.toNat+_;omega
 let C:Array Value:= #[]++Builtin.zeroCells z.cells n.toNat++Builtin.zeroCells z.cells (nc -(0+n.toNat))
 refine ⟨nc,C,SQ,⟨(Builtin.zeroCells z.cells (nc -(0+n.toNat))).toList,by simp [C]⟩,?_,?_⟩
 · simp only[C,Array.size_append,pD,Xd,Array.size_empty,Nat.zero_add]
   rw[←Nat.add_mul];congr 1;omega
 · obtain ⟨inf,JT,hb⟩:=rk mE w
   obtain ⟨agE,SU,ZR⟩:=rk mE w.drew
   have hmul:(4*n.toNat+4096)*(bytes+1)=(4*n.toNat+4096)*bytes+(4*n.toNat+4096):=by rw[Nat.mul_add,Nat.mul_one]
   have SP:n.toNat≤1099511627776:=by omega
   have ad4:IntKind.i64.wrap n=n:=by
    rw[IntKind.wrap_i64];omega
   have agG:¬n<0:=by omega
   have E_:n*(bytes:Int)=((n.toNat*bytes:Nat):Int):=by rw[Int.natCast_mul,Int.toNat_of_nonneg (by omega)]
   have hle:n.toNat*bytes≤(4*n.toNat+4096)*bytes:=Nat.mul_le_mul_right _ (by omega)
   have ad5:¬n*(bytes:Int) >2^48:=by rw[E_];omega
   have aa6:¬0+n.toNat≤0:=by omega
   have aa7:=nextslicecap_le (show 0<0+n.toNat by omega)
   have MH:¬Builtin.nextslicecap (0+n.toNat) 0*bytes>2^48:=by
    have:Builtin.nextslicecap (0+n.toNat) 0*bytes≤(4*(0+n.toNat)+4096)*bytes:=Nat.mul_le_mul_right _ aa7
    rw[Nat.zero_add] at this
    rw[Nat.zero_add]
    omega
   have aa8:IntKind.i64.max=9223372036854775807:=by decide
   have HK:¬(((0+n.toNat:Nat):Int) >IntKind.i64.max):=by rw[aa8];omega
   have hns:¬n.toNat*size=0:=by
    have h1:0<n.toNat:=by omega
    have:=Nat.mul_pos h1 MI;omega
   have z1:=hz w.drew
   have hf:((!true)=true)=False:=by simp
   have hai:∀w,(asInt (.int k n)).run P w= .ok n w:=fun _=>rfl
   simp only[Builtin.append_,List.getElem?_toArray,List.getElem?_cons_zero,List.getElem?_cons_succ,Sem.run_bind,Sem.run_pure,Result.andThen_ok,run_underlying hs,run_underlying hx,eR gz,if_true,hai,ad4]
   rw[if_neg agG]
   simp only[Sem.run_bind,JT,hb,Result.andThen_ok]
   rw[if_neg ad5]
   simp only[Sem.run_bind,Sem.run_pure,Result.andThen_ok]
   rw[if_neg aa6]
   simp only[Sem.run_bind,Result.andThen_ok,JT,hb]
   rw[if_neg (fun h=>HK h.1)]
   simp only[Sem.run_bind,JT,hb,Result.andThen_ok]
   rw[if_neg MH]
   simp only[Sem.run_bind,run_choose,Question.forced,Bool.false_eq_true,if_false,World.drew_eq,Result.andThen_ok,SU,run_askRoom,Builtin.firstCells,hf,if_neg hns,z1,newRow,run_newObj,World.alloc_eq,Sem.run_pure]
   simp only[nc,C,Nat.zero_add]
   rfl
theorem JU {φ:Ph} {h h':au} {w:World} (ok:OK E φ h w) {argTypes:Array TypeId} {s x v:AV} (e:dJ E h argTypes s x=some (v,h')) {s' x':Value} (hs:VR φ s s') (hx:VR φ x x') (ty:TypeId):
 Qt E φ h w ((Builtin.append_ argTypes ty #[s',x']).run E.P w) v h':=by
 unfold dJ at e
 split at e
 · rename_i sT xT hsT hxT
   split at e
   · rename_i elem xd hus hux
     split at e
     · rename_i hint
       cases xd<;>simp [px] at hint
       have key:(Builtin.append_ argTypes ty #[s',x']).run E.P w=(Builtin.append_ #[sT,xT] ty #[s',x']).run E.P w:=by
        unfold Builtin.append_;simp only[hsT,hxT];rfl
       rw[key]
       unfold tW at e
       split at e
       · rename_i k0 k size bytes z gz mE hzero
         split at e
         · rename_i hc
           obtain ⟨hk,MI,Xe,hzl⟩:=hc
           split at e
           · rename_i h1 Bp
             simp at e;obtain ⟨rfl,rfl⟩:=e
             cases hs;cases hx
             obtain ⟨z',B7,lF⟩:=jZ hzero
             have Xd:z'.cells.size=size:=by have:=(B7 φ).cells.1;simp at this;omega
             obtain ⟨nc,C,SQ,⟨rest,hC⟩,Sj,iv⟩:=B9 (P:=E.P) (w:=w) (ty:=ty) (k:=k0) hus hux gz mE lF Xd hk MI Xe
             rw[iv]
             exact yw (n:=k.toNat) ok Bp (l:=(Builtin.zeroCells z'.cells k.toNat).toList) (ME (B7 φ).cells k.toNat) gz hC Sj SQ (by rw[Array.length_toList,pD,Xd])
           · simp at e
         · simp at e
       · simp at e
     rename_i ad6
     have Xc:∀k,xd≠ .int k:=fun k he=>by subst he;simp [px] at ad6
     split at e
     · rename_i size bytes n gz mE hlen
       split at e
       · rename_i new z Di hzero
         split at e
         · rename_i hc
           obtain ⟨hzl,Fy,ZU⟩:=hc
           obtain ⟨z',B7,lF⟩:=jZ hzero
           have Xd:z'.cells.size=size:=by have:=(B7 φ).cells.1;simp at this;omega
           obtain ⟨tz,Fz,yx⟩:=Dh ok hx Di (.inr trivial)
           have SP:tz.length=n*size:=by rw[←Fz.1];exact ZU
           have key:(Builtin.append_ argTypes ty #[s',x']).run E.P w=(Builtin.append_ #[sT,xT] ty #[s',x']).run E.P w:=by
            unfold Builtin.append_;simp only[hsT,hxT];rfl
           rw[key]
           split at e
           ·
            cases hs
            split at e
            · rename_i WJ
              simp at e;obtain ⟨rfl,rfl⟩:=e
              subst WJ
              refine ⟨φ,w,_,?_,.aH,ok,Fr.refl φ h w⟩
              have hxm:(match xd with | .int _=>true | _=>false)=false:=by cases xd<;>first | rfl | exact absurd rfl (Xc _)
              have hf:((!false)=true)=True:=by simp
              have hn1:=yx w rfl
              simp only[Builtin.append_,List.getElem?_toArray,List.getElem?_cons_zero,List.getElem?_cons_succ,Sem.run_bind,Sem.run_pure,Result.andThen_ok,run_underlying hus,run_underlying hux,eR gz,hf,Bool.false_eq_true,if_false,if_true,pE hlen hx,hn1,Nat.le_refl,Nat.add_zero]
            · rename_i WJ
              split at e
              · rename_i Xe
                split at e
                · rename_i h1 Bp
                  simp at e;obtain ⟨rfl,rfl⟩:=e
                  obtain ⟨nc,C,SQ,⟨rest,hC⟩,Sj,iv⟩:=tb (P:=E.P) (w:=w) (ty:=ty) hus hux Xc gz mE lF Xd (base:=none) (len:=0) (cap:=0) (fun w=>pE hlen hx E.P w) (old:=[]) (fun w' _=>by simp [Builtin.firstCells]) (fun w' hw=>yx w' hw) (by omega) (by simpa using Xe) (by simp) SP
                  have:=yw (n:=n) ok Bp (l:=[]++tz) (by simpa using Fz) (by simpa using gz) (by simpa using hC) Sj (by omega) (by simp [SP])
                  rw[iv]
                  simp only[Nat.zero_add] at this ⊢
                  exact this
                · simp at e
              · simp at e
           · rename_i i o len cap op
             cases hs with
             | @slice _ l _ _ _ _ hφ=>
             split at e
             · rename_i cs el hg
               split at e
               ·
                rename_i ad7
                split at e
                · rename_i hle
                  simp at e;obtain ⟨rfl,rfl⟩:=e
                  have hcc:cap≤hQ op cap l.jN:=by unfold hQ;split<;>omega
                  obtain ⟨w',kb,qI,tx⟩:=Ap ok hg hφ Fz (o+len*size) (by rw[ZU,Nat.add_assoc,←Nat.add_mul];exact hle) Fy
                  refine ⟨φ,w',_,rv (P:=E.P) hus hux Xc gz (fun w=>pE hlen hx E.P w) (yx w rfl) (by omega) (by rw[Nat.add_assoc];exact kb),?_,qI,tx⟩
                  have:=VR.slice (φ:=φ) o (len+n) cap op hφ
                  exact this
                · simp at e
               · rename_i ad7
                 split at e
                 · rename_i SK
                   obtain ⟨Xe,WK,rb⟩:=SK
                   split at e
                   · rename_i h1 Bp
                     simp at e;obtain ⟨rfl,rfl⟩:=e
                     obtain ⟨C0,e0,lo,hi,hb0,hc0⟩:=ok.cells hg hφ
                     obtain ⟨Xg,JV,ad8,MJ⟩:=hc0.range o (len*size) WK
                     have Xh:∀cp w',w'.heap=w.heap→(Builtin.firstCells size len (.slice (some ⟨l.g6,l.off+o,none⟩) len cp)).run E.P w'= .ok Xg.toArray w':=fun cp w' hw=>by
                      rw[←hw] at hb0
                      have Dc:=o5 (P:=E.P) hb0 (l.off+o) Xg ad8
                      rw[JV] at Dc
                      simp only[Builtin.firstCells,Dc]
                     by_cases ZT:len+n≤hQ op cap l.jN
                     ·
                      have agH:op=true:=by
                       cases op with
                       | true=>rfl
                       | false=>simp [hQ] at ZT;omega
                      subst agH
                      obtain ⟨rfl,ad2⟩:=rb rfl
                      simp only[hQ,if_true] at ZT ⊢
                      simp only[if_true] at Bp
                      have JN:=hc0.size
                      simp only[f',gz,Option.getD_some] at JN
                      have hmul:(len+n)*size≤(cap+l.jN)*size:=Nat.mul_le_mul_right _ ZT
                      have e1:(len+n)*size=len*size+n*size:=Nat.add_mul _ _ _
                      have e2:(cap+l.jN)*size=cap*size+l.jN*size:=Nat.add_mul _ _ _
                      have kb:=wa (P:=E.P) hb0 (l.off+o+len*size) tz (by omega) (fun k k1 k2=>hc0.free rfl k (by omega) (by simp only[f',gz,Option.getD_some];omega)) (Dg Fz Fy)
                      obtain ⟨p1,p2,p3⟩:=ue tz w l.g6 (l.off+o+len*size)
                      obtain ⟨qI,tx⟩:=ok.reuse (w':=w.setCells l.g6 (l.off+o+len*size) tz) (l':=⟨l.g6,l.off+o,cap+l.jN -(len+n)⟩) hg rfl hφ rfl Bp (by
                       refine ⟨lh C0 (l.off+o+len*size) tz,e0,lo,hi,qF tz hb0 _,?_,fun k x hk=>?_,fun _ k a b=>hc0.free rfl k (by simp at a;omega) ?_,fun h=>by cases h⟩
                       · simp only[f',gz,Option.getD_some,uc,List.length_append,MJ.1,JV,Fz.1,SP]
                         rw[Nat.sub_mul];omega
                       · show ∃y,(lh C0 (l.off+o+len*size) tz)[l.off+o+k]? =some y∧_
                         rw[wR]
                         by_cases hk1:k<len*size
                         · rw[List.getElem?_append_left (by rw[MJ.1,JV];exact hk1)] at hk
                           obtain ⟨y,hy,hr⟩:=MJ.get hk
                           rw[if_neg (by omega)]
                           exact ⟨y,ad8 k y hy,hr.mono (fun j m hm=>by
                            unfold Ph.add
                            split
                            · rename_i ej;subst ej;exact absurd (ok.B6 _ _ hm) (Nat.lt_irrefl _)
                            · exact hm)⟩
                         · rw[List.getElem?_append_right (by rw[MJ.1,JV];omega)] at hk
                           obtain ⟨y,hy,hr⟩:=Fz.get hk
                           have hyl:k -((List.take (len*size) (List.drop o cs)).length)<tz.length:=(List.getElem?_eq_some_iff.1 hy).1
                           rw[MJ.1,JV] at hyl hy
                           rw[if_pos (by omega)]
                           exact ⟨y,by rw[show l.off+o+k -(l.off+o+len*size)=k - len*size by omega];exact hy,hr.mono (fun j m hm=>by
                            unfold Ph.add
                            split
                            · rename_i ej;subst ej;exact absurd (ok.B6 _ _ hm) (Nat.lt_irrefl _)
                            · exact hm)⟩
                       · simp only[f',gz,Option.getD_some,List.length_append,MJ.1,JV,Fz.1,SP] at b ⊢
                         rw[Nat.sub_mul] at b;omega)
                       (fun c eY=>lj tz (Ne.symm eY) _) (qG _ _ _ _) p1 p2 p3
                      refine ⟨_,_,_,rv (P:=E.P) hus hux Xc gz (fun w=>pE hlen hx E.P w) (yx w rfl) ZT kb,?_,qI,tx⟩
                      have:=VR.slice (φ:=φ.add h.nx ⟨l.g6,l.off+o,cap+l.jN -(len+n)⟩) (i:=h.nx) (l:=⟨l.g6,l.off+o,cap+l.jN -(len+n)⟩) 0 (len+n) (len+n) true (by simp [Ph.add])
                      simp only[hQ,if_true] at this
                      rw[show len+n+(cap+l.jN -(len+n))=cap+l.jN by omega] at this
                      exact this
                     ·
                      obtain ⟨nc,C,SQ,⟨rest,hC⟩,Sj,iv⟩:=tb (P:=E.P) (w:=w) (ty:=ty) hus hux Xc gz mE lF Xd (base:=some ⟨l.g6,l.off+o,none⟩) (len:=len) (cap:=hQ op cap l.jN) (fun w=>pE hlen hx E.P w) (old:=Xg) (fun w' hw=>Xh _ w' hw) (fun w' hw=>yx w' hw) (by omega) Xe JV SP
                      rw[iv]
                      have Bk:=MJ.append Fz
                      have hll:(Xg++tz).length=(len+n)*size:=by rw[List.length_append,JV,SP,Nat.add_mul]
                      cases op with
                      | false=>exact yw ok Bp Bk gz hC Sj SQ hll
                      | true=>
                        obtain ⟨φ',w',v',a1,a2,a3,a4⟩:=yw ok.kill Bp Bk gz hC Sj SQ hll
                        exact ⟨φ',w',v',a1,a2,a3,a4.Xf⟩
                   · simp at e
                 · simp at e
             · simp at e
           · simp at e
         · simp at e
       · simp at e
     · simp at e
   · simp at e
 · simp at e
end Go.Ab
end
section
namespace Go.Ab
variable {E:Env}
theorem Qu {φ:Ph} {h h':au} {w:World} (ok:OK E φ h w) {argTypes:Array TypeId} {s d v:AV} (e:s9 E h argTypes d s=some (v,h')) {s' d':Value} (hd:VR φ d d') (hs:VR φ s s') (ty:TypeId):
 Qt E φ h w ((Builtin.copy_ argTypes ty #[d',s']).run E.P w) v h':=by
 unfold s9 at e
 split at e
 · rename_i dT hdT
   split at e
   · rename_i elem m hu hm
     split at e
     · rename_i size gz
       simp at e;obtain ⟨rfl,rfl⟩:=e
       cases hd
       refine ⟨φ,w,_,?_,.int .i64 0,ok,Fr.refl φ h w⟩
       have h0:Nat.min m 0=0:=Nat.min_eq_right (Nat.zero_le _)
       obtain ⟨tz,_,yx⟩:∃tz:List Value,True∧(Builtin.firstCells size 0 s').run E.P w= .ok tz.toArray w:=by
        cases s<;>simp [rf] at hm
        · generalize MB:AV.str _=s0 at hs
          cases hs<;>cases MB
          refine ⟨[],trivial,?_⟩
          simp [Builtin.firstCells]
        · cases hs;exact ⟨[],trivial,by simp [Builtin.firstCells]⟩
        · cases hs;exact ⟨[],trivial,by simp [Builtin.firstCells,loadCells,loadCellsFrom]⟩
        · cases hs;exact ⟨[],trivial,by simp [Builtin.firstCells,loadCells,loadCellsFrom]⟩
       simp only[Builtin.copy_,hdT,List.getElem?_toArray,List.getElem?_cons_zero,List.getElem?_cons_succ,Sem.run_bind,Result.andThen_ok,run_underlying hu,pE hm hs,h0,eR gz,yx,Sem.run_pure]
       rfl
     · rename_i size i o len _ _ gz
       split at e
       · rename_i new cs el Di hg
         split at e
         · rename_i hc
           simp at e;obtain ⟨rfl,rfl⟩:=e
           cases hd with
           | @slice _ l _ _ _ _ hφ=>
           obtain ⟨tz,Fz,yx⟩:=Dh ok hs Di (.inr trivial)
           obtain ⟨w',kb,qI,tx⟩:=Ap ok hg hφ Fz o hc.1 hc.2
           refine ⟨φ,w',_,?_,.int .i64 _,qI,tx⟩
           have h0:Nat.min m len=min m len:=rfl
           simp only[Builtin.copy_,hdT,List.getElem?_toArray,List.getElem?_cons_zero,List.getElem?_cons_succ,Sem.run_bind,Result.andThen_ok,run_underlying hu,pE hm hs,h0,eR gz,yx w rfl,kb,Sem.run_pure]
           rfl
         · simp at e
       · simp at e
     · simp at e
   · simp at e
 · simp at e
theorem JW {w:World} {b n:Nat} {C:Array Value} {e:TypeId} (h:w.heap[b]? =some (.cells C e)):(w.freeze ⟨b,n,none⟩ 1).heap[b]? =some (.cells C e (n,n+1)):=by
 simp [World.freeze,Array.getElem?_modify,h]
theorem HL {w:World} {b c n:Nat} (h:b≠c):(w.freeze ⟨b,n,none⟩ 1).heap[c]? =w.heap[c]? :=by
 simp [World.freeze,Array.getElem?_modify,h]
theorem JX (w:World) (b n:Nat):(w.freeze ⟨b,n,none⟩ 1).heap.size=w.heap.size:=by simp [World.freeze]
theorem Qv {φ:Ph} {h h':au} {w:World} (ok:OK E φ h w) {src dst:TypeId} {x:AV} {v:AV} (e:Gm E h src dst (some x)=some (v,h')) {x':Value} (hx:VR φ x x'):
 Qt E φ h w ((convert src dst x').run E.P w) v h':=by
 unfold Gm at e
 split at e
 · rename_i el s hs hd Fv
   simp at Fv;subst Fv
   generalize MB:AV.str s=s0 at hx
   cases hx<;>cases MB
   rename_i s'
   split at e
   · rename_i h1 he hn
     split at e
     · rename_i JN
       simp at e;obtain ⟨rfl,rfl⟩:=e
       have e1:s'.size=s'.data.toList.length:=by cases s';rfl
       let nc:=(Question.appendCap s'.size 0 el).cut (w.tape w.drawn (.appendCap s'.size 0 el))
       have SQ:s'.size≤nc:=by show s'.size≤s'.size+_;omega
       let C:Array Value:=(s'.data.map fun b=>Value.int .u8 b.toNat)++Array.replicate (nc - s'.size) (.int .u8 0)
       have Sj:C.size=nc:=by
        have e0:s'.size=s'.data.size:=rfl
        have:C.size=s'.data.size+(nc - s'.size):=by simp only[C,Array.size_append,Array.size_map,Array.size_replicate]
        omega
       have B_:(w.drew.alloc (.cells C el)).heap=w.heap.push (.cells C el):=rfl
       have ad9:(w.drew.alloc (.cells C el)).heap[w.heap.size]? =some (.cells C el):=by rw[B_];simp
       obtain ⟨qI,tx,hle⟩:=ok.fresh (w':=(w.drew.alloc (.cells C el)).freeze ⟨w.heap.size,nc,none⟩ 1) hn ⟨w.heap.size,0,nc - s'.size⟩ (by
        refine ⟨C,el,nc,nc+1,JW ad9,?_,fun k x hk=>?_,fun _ k _ b=>?_,fun _ _ _=>rfl⟩
        · simp only[f',JN,Option.getD_some,Sj,List.length_map];rw[←e1];omega
        · rw[List.getElem?_map] at hk
          cases hb:s'.data.toList[k]? with
          | none=>rw[hb] at hk;simp at hk
          | some b=>
            rw[hb] at hk;simp at hk;subst hk
            have hkl:k<s'.data.toList.length:=(List.getElem?_eq_some_iff.1 hb).1
            refine ⟨.int .u8 b.toNat,?_,.int _ _⟩
            have:C[0+k]? =(s'.data.map fun b=>Value.int .u8 b.toNat)[k]? :=by
             simp only[C,Nat.zero_add];rw[Array.getElem?_append_left (by simpa using hkl)]
            show C[0+k]? =_
            rw[this]
            rw[Array.getElem?_map]
            have ZR:s'.data[k]? =some b:=by simpa using hb
            rw[ZR];rfl
        · simp only[f',JN,Option.getD_some,List.length_map] at b;rw[←e1] at b;omega)
        (fun c eY hc=>by
         rw[HL (Ne.symm eY),B_,Array.getElem?_push,if_neg (by omega)]) (by rw[JX,B_];simp) (Nat.le_refl _) rfl rfl rfl
       refine ⟨_,_,.slice (some ⟨w.heap.size,0,none⟩) s'.size nc,?_,?_,qI,tx⟩
       · have hsh:(w.drew.alloc (.cells C el)).shape? w.heap.size=some (el,nc):=by
          simp only[World.shape?,ad9,Sj]
         simp only[convert,Sem.run_bind,run_underlying hs,run_underlying hd,Result.andThen_ok,run_underlying he,Conv.stringToBytes,run_choose,Question.forced,Bool.false_eq_true,if_false,World.drew_eq,newRow,run_newObj,World.alloc_eq,Sem.run_pure,markStringish]
         rw[show (Question.appendCap s'.size 0 el).cut (w.tape w.drawn (Question.appendCap s'.size 0 el))=nc from rfl,show (Array.map (fun b=>Value.int .u8 b.toNat) s'.data++Array.replicate (nc - s'.size) (Value.int .u8 0))=C from rfl]
         simp only[World.size_drew,run_shape,hsh,Result.andThen_ok,run_freeze]
       · have:=VR.slice (φ:=φ.add h.nx ⟨w.heap.size,0,nc - s'.size⟩) (i:=h.nx) (l:=⟨w.heap.size,0,nc - s'.size⟩) 0 s'.size s'.size true (by simp [Ph.add])
         simp only[hQ,if_true] at this
         rw[show s'.size+(nc - s'.size)=nc by omega] at this
         exact this
     · simp at e
   · simp at e
 · simp at e
theorem r5 {φ:Ph} {v:AV} {v':Value} (hv:VR φ v v') {k':Value}:∀{es:List lW} {lU:List MapEntry} (_:SA φ es lU) (i:Nat) (_:∀e,es[i]? =some e→VR φ e.key k'),
 SA φ (mC es i v) (lU.modify i fun e=>{e with key:=k',val:=v'})
 | [],lU,h,i,_=>by
   cases lU with
   | nil=>simpa [mC] using h
   | cons _ _=>simp [SA] at h
 | e::es,lU,h,i,hk=>by
   obtain ⟨hl,Mg⟩:=h
   cases lU with
   | nil=>simp at hl
   | cons y ys=>
     have h0:=Mg 0 e y (by simp) (by simp)
     have pC:SA φ es ys:=⟨by simpa using hl,fun i a b p q=>Mg (i+1) a b (by simpa using p) (by simpa using q)⟩
     cases i with
     | zero=>
       simp only[mC,List.modify_zero_cons]
       refine ⟨by simpa using hl,fun j a b p q=>?_⟩
       cases j with
       | zero=>simp at p q;subst p;subst q;exact ⟨hk e (by simp),hv,h0.born⟩
       | succ j=>simp at p q;exact pC.2 j a b p q
     | succ i=>
       simp only[mC,List.modify_succ_cons]
       obtain ⟨g1,g2⟩:=r5 hv pC i (fun e he=>hk e (by simpa using he))
       refine ⟨by simp [g1],fun j a b p q=>?_⟩
       cases j with
       | zero=>simp at p q;subst p;subst q;exact h0
       | succ j=>simp at p;exact g2 j a b p (by simpa using q)
theorem Xi (s:ByteArray):(s==s)=true:=by cases s;rename_i d;show (d==d)=true;simp
theorem HM {φ:Ph} {k j:AV} (e:Gk k j=some true) {k' j':Value} (h:VR φ k k') (h':VR φ j j'):Instr.sameBits 10000 j' k'=true∧j'=k':=by
 unfold Gk at e
 split at e
 · generalize hs:AV.str _=s at h
   generalize rX:AV.str _=s' at h'
   cases h<;>cases hs
   cases h'<;>cases rX
   rename_i s s'
   simp at e
   have:s'=s:=by cases s;cases s';simp_all
   subst this
   exact ⟨by simp only[Instr.sameBits];exact Xi _,rfl⟩
 · cases h;cases h'
   split at e
   · rename_i Dd
     simp at e;subst e;subst Dd
     exact ⟨by simp [Instr.sameBits],rfl⟩
   · simp at e
 · cases h;cases h'
   simp at e;subst e
   exact ⟨by simp [Instr.sameBits],rfl⟩
 · simp at e
theorem ui {φ:Ph} {h h':au} {w:World} (ok:OK E φ h w) {t:TypeId} {m k v:AV} {m' k' v':Value} (hm:VR φ m m') (hk:VR φ k k') (hv:VR φ v v') (e:fi E h t m k v=some h'):
 ∃w',(Instr.mapUpdate t m' k' v').run E.P w= .ok () w'∧OK E φ h' w'∧Fr φ h w φ h' w':=by
 unfold fi at e
 split at e
 · rename_i key elem i hu
   cases hm with
   | @map _ l hφ=>
   split at e
   · rename_i es clock hg
     split at e
     · rename_i Dd
       have MD:∃d,E.P.underlying key=some d∧jn (some d) k=true:=by
        cases hd:E.P.underlying key with
        | none=>rw[hd] at Dd;simp [jn] at Dd
        | some d=>rw[hd] at Dd;exact ⟨d,rfl,Dd⟩
       obtain ⟨d,hd,Df⟩:=MD
       have E9:=ok.live i _ l hg hφ
       obtain ⟨SN,lU,hb,lZ⟩:=E9
       have Fx:(getObj l.g6).run E.P w= .ok (.map lU clock) w:=by simp [getObj,Sem.run,hb]
       have Mh:=rZ (P:=E.P) hd Df hk false 9999 w
       have Aq:∀o':Obj,(setObj l.g6 o').run E.P w= .ok () {w with heap:=w.heap.setIfInBounds l.g6 o'}:=fun o'=>by simp [setObj,Sem.run,hb]
       have hch:∀(o:aM) (o':Obj),OR E φ o l (some o')→o.rw=true→OK E φ (h.put i (some o)) {w with heap:=w.heap.setIfInBounds l.g6 o'}∧Fr φ h w φ (h.put i (some o)) {w with heap:=w.heap.setIfInBounds l.g6 o'}:=fun o o' ho JC=>by
        have np:l.g6<w.heap.size:=by
         rcases Nat.lt_or_ge l.g6 w.heap.size with a | a
         · exact a
         · rw[Array.getElem?_eq_none a] at hb;simp at hb
        exact ok.change hg rfl hφ (by simp [np];exact ho) (fun c eY=>by simp [Ne.symm eY]) (by simp) rfl rfl rfl
       split at e
       · rename_i j v0 hf
         obtain ⟨r',h1,h2⟩:=rq Df hk lZ hf
         cases r' with
         | none=>exact h2.elim
         | some q=>
         obtain ⟨j',v1⟩:=q
         obtain ⟨rfl,Mg,_,ent,Ao,SV⟩:=h2
         simp at e;subst e
         obtain ⟨y,hy⟩:∃y,lU.toList[j]? =some y:=by
          have np:j<es.length:=by simpa using (List.getElem?_eq_some_iff.1 Ao).1
          exact ⟨lU.toList[j]'(by rw[←lZ.1];exact np),by simp⟩
         have hey:=lZ.2 j ent y (by simpa using Ao) hy
         obtain ⟨hsb,aa9⟩:=HM SV hk hey.key
         have Xj:lU[j]? =some y:=by simpa using hy
         obtain ⟨qI,tx⟩:=hch (.map (mC es j v) clock) (.map (lU.modify j fun e=>{e with key:=k',val:=v'}) clock) ⟨SN,_,rfl,by
          have:=r5 hv lZ j (k':=k') (fun e he=>by
           have:e=ent:=by
            have h3:es[j]? =some ent:=by simpa using Ao
            rw[h3] at he;simp at he;exact he.symm
           subst this;rw[←aa9];exact hey.key)
          simpa using this⟩ rfl
         refine ⟨_,?_,qI,tx⟩
         simp only[Instr.mapUpdate,Sem.run_bind,run_underlying hu,Result.andThen_ok,Fx,Mh,Instr.findKey,run_underlying hd,h1,Sem.run_pure,Xj,Option.map_some,Option.getD_some,Instr.keyThatStays,hsb,if_true,Aq _]
       · rename_i hf
         obtain ⟨r',h1,h2⟩:=rq Df hk lZ hf
         cases r' with
         | some q=>exact h2.elim
         | none=>
         simp at e;subst e
         obtain ⟨qI,tx⟩:=hch (.map (es++[{key:=k,val:=v,born:=clock}]) (clock+1)) (.map (lU.push {key:=k',val:=v',born:=clock}) (clock+1)) ⟨SN,_,rfl,by
          refine ⟨by simp [lZ.1],fun j a b p q=>?_⟩
          rw[Array.toList_push] at q
          by_cases hj:j<es.length
          · rw[List.getElem?_append_left hj] at p
            rw[List.getElem?_append_left (by rw[←lZ.1];exact hj)] at q
            exact lZ.2 j a b p q
          · rw[List.getElem?_append_right (by omega)] at p
            rw[List.getElem?_append_right (by rw[←lZ.1];omega),←lZ.1] at q
            cases hjj:j - es.length with
            | zero=>rw[hjj] at p q;simp at p q;subst p;subst q;exact ⟨hk,hv,rfl⟩
            | succ n=>rw[hjj] at p;simp at p⟩ rfl
         refine ⟨_,?_,qI,tx⟩
         simp only[Instr.mapUpdate,Sem.run_bind,run_underlying hu,Result.andThen_ok,Fx,Mh,Instr.findKey,run_underlying hd,h1,Sem.run_pure,Aq _]
       · simp at e
     · split at e
       · rename_i Dd
         have MD:∃d,E.P.underlying key=some d∧nO E (some d) k=true:=by
          cases hd:E.P.underlying key with
          | none=>rw[hd] at Dd;simp [nO] at Dd
          | some d=>rw[hd] at Dd;exact ⟨d,rfl,Dd⟩
         obtain ⟨d,hd,Df⟩:=MD
         have E9:=ok.live i _ l hg hφ
         obtain ⟨SN,lU,hb,lZ⟩:=E9
         have Fx:(getObj l.g6).run E.P w= .ok (.map lU clock) w:=by simp [getObj,Sem.run,hb]
         have Mh:=uh hd Df hk false 9998 w
         have Aq:∀o':Obj,(setObj l.g6 o').run E.P w= .ok () {w with heap:=w.heap.setIfInBounds l.g6 o'}:=fun o'=>by simp [setObj,Sem.run,hb]
         have hch:∀(o:aM) (o':Obj),OR E φ o l (some o')→o.rw=true→OK E φ (h.put i (some o)) {w with heap:=w.heap.setIfInBounds l.g6 o'}∧Fr φ h w φ (h.put i (some o)) {w with heap:=w.heap.setIfInBounds l.g6 o'}:=fun o o' ho JC=>by
          have np:l.g6<w.heap.size:=by
           rcases Nat.lt_or_ge l.g6 w.heap.size with a | a
           · exact a
           · rw[Array.getElem?_eq_none a] at hb;simp at hb
          exact ok.change hg rfl hφ (by simp [np];exact ho) (fun c eY=>by simp [Ne.symm eY]) (by simp) rfl rfl rfl
         split at e
         · rename_i j v0 hf
           obtain ⟨r',h1,h2⟩:=rp hk lZ hf
           cases r' with
           | none=>exact h2.elim
           | some q=>
           obtain ⟨j',v1⟩:=q
           obtain ⟨rfl,Mg,_,ent,Ao,SV⟩:=h2
           simp at e;subst e
           obtain ⟨y,hy⟩:∃y,lU.toList[j]? =some y:=by
            have np:j<es.length:=by simpa using (List.getElem?_eq_some_iff.1 Ao).1
            exact ⟨lU.toList[j]'(by rw[←lZ.1];exact np),by simp⟩
           have hey:=lZ.2 j ent y (by simpa using Ao) hy
           obtain ⟨hsb,aa9⟩:=SV hk hey.key
           have Xj:lU[j]? =some y:=by simpa using hy
           obtain ⟨qI,tx⟩:=hch (.map (mC es j v) clock) (.map (lU.modify j fun e=>{e with key:=k',val:=v'}) clock) ⟨SN,_,rfl,by
            have:=r5 hv lZ j (k':=k') (fun e he=>by
             have:e=ent:=by
              have h3:es[j]? =some ent:=by simpa using Ao
              rw[h3] at he;simp at he;exact he.symm
             subst this;rw[←aa9];exact hey.key)
            simpa using this⟩ rfl
           refine ⟨_,?_,qI,tx⟩
           simp only[Instr.mapUpdate,Sem.run_bind,run_underlying hu,Result.andThen_ok,Fx,Mh,o6 hd Df hk (h1 w),Sem.run_pure,Xj,Option.map_some,Option.getD_some,Instr.keyThatStays,hsb,if_true,Aq _]
         · rename_i hf
           obtain ⟨r',h1,h2⟩:=rp hk lZ hf
           cases r' with
           | some q=>exact h2.elim
           | none=>
           simp at e;subst e
           obtain ⟨qI,tx⟩:=hch (.map (es++[{key:=k,val:=v,born:=clock}]) (clock+1)) (.map (lU.push {key:=k',val:=v',born:=clock}) (clock+1)) ⟨SN,_,rfl,by
            refine ⟨by simp [lZ.1],fun j a b p q=>?_⟩
            rw[Array.toList_push] at q
            by_cases hj:j<es.length
            · rw[List.getElem?_append_left hj] at p
              rw[List.getElem?_append_left (by rw[←lZ.1];exact hj)] at q
              exact lZ.2 j a b p q
            · rw[List.getElem?_append_right (by omega)] at p
              rw[List.getElem?_append_right (by rw[←lZ.1];omega),←lZ.1] at q
              cases hjj:j - es.length with
              | zero=>rw[hjj] at p q;simp at p q;subst p;subst q;exact ⟨hk,hv,rfl⟩
              | succ n=>rw[hjj] at p;simp at p⟩ rfl
           refine ⟨_,?_,qI,tx⟩
           simp only[Instr.mapUpdate,Sem.run_bind,run_underlying hu,Result.andThen_ok,Fx,Mh,o6 hd Df hk (h1 w),Sem.run_pure,Aq _]
         · simp at e
       · simp at e
   · simp at e
 · simp at e
theorem HN {s:ByteArray} {pos:Nat} {b:UInt8} (h:s.data.toList[pos]? =some b) (hb:b.toNat<128):Utf8.decode s pos=(b.toNat,1):=by
 have hl:pos<s.size:=(List.getElem?_eq_some_iff.1 h).1
 have ZR:s[pos]'hl=b:=by
  have:=(List.getElem?_eq_some_iff.1 h).2
  rw[←this];rfl
 rw[decode_ascii s pos hl (by rw[ZR];exact hb),ZR]
set_option linter.unusedSimpArgs false in
theorem Qw {φ:Ph} {h h':au} {w:World} (ok:OK E φ h w) {it v:AV} {b:Bool} (e:Gl h it b=some (v,h')) {it':Value} (hit:VR φ it it') (ty:TypeId):
 Qt E φ h w ((Instr.next it' b ty).run E.P w) v h':=by
 unfold Gl at e
 split at e
 · rename_i r
   cases hit with
   | @ptr _ l _ hφ=>
   split at e
   · rename_i s pos hg
     have E9:=ok.live r _ l hg hφ
     obtain ⟨SN,s',hb,rX⟩:=E9
     have Fx:(getObj l.g6).run E.P w= .ok (.stringIter s' pos) w:=by simp [getObj,Sem.run,hb]
     have e1:s'.size=s.length:=by rw[←rX];cases s';rfl
     split at e
     · rename_i np
       split at e
       · rename_i c hc
         split at e
         · rename_i agI
           simp at e;obtain ⟨rfl,rfl⟩:=e
           have Aq:(setObj l.g6 (.stringIter s' (pos+1))).run E.P w= .ok () {w with heap:=w.heap.setIfInBounds l.g6 (.stringIter s' (pos+1))}:=by simp [setObj,Sem.run,hb]
           have agJ:l.g6<w.heap.size:=by
            rcases Nat.lt_or_ge l.g6 w.heap.size with a | a
            · exact a
            · rw[Array.getElem?_eq_none a] at hb;simp at hb
           obtain ⟨qI,tx⟩:=ok.change (w':={w with heap:=w.heap.setIfInBounds l.g6 (.stringIter s' (pos+1))}) (o':= .v9 s (pos+1)) hg rfl hφ (by simp [agJ];exact ⟨SN,s',rfl,rX⟩) (fun c eY=>by simp [Array.getElem?_setIfInBounds,Ne.symm eY]) (by simp) rfl rfl rfl
           refine ⟨φ,_,.tuple #[.bool true,.int .i64 pos,.int .i32 c.toNat],?_,VR.tuple' (jL:=[.bool true,.int .i64 pos,.int .i32 c.toNat]) (.cons (.bool true) (.cons (.int _ _) (.cons (.int _ _) (.nil φ)))),qI,tx⟩
           have agK:=HN (s:=s') (pos:=pos) (b:=c) (by rw[rX];exact hc) agI
           have h0:l.off+0=0:=by omega
           simp only[Instr.next,h0,Sem.run_bind,Fx,Result.andThen_ok,e1,np,if_true,agK,Aq,Sem.run_pure,goInt]
         · simp at e
       · simp at e
     · rename_i np
       simp at e;obtain ⟨rfl,rfl⟩:=e
       refine ⟨φ,w,.tuple #[.bool false],?_,VR.tuple' (jL:=[.bool false]) (.cons (.bool false) (.nil φ)),ok,Fr.refl φ h w⟩
       have h0:l.off+0=0:=by omega
       simp only[Instr.next,h0,Sem.run_bind,Fx,Result.andThen_ok,e1,np,if_false,Sem.run_pure]
   · rename_i s1 s2 s3 hg
     have E9:=ok.live r _ l hg hφ
     obtain ⟨SN,hb⟩:=E9
     have Fx:(getObj l.g6).run E.P w= .ok (.mapIter none s1 s2.toArray s3) w:=by simp [getObj,Sem.run,hb]
     simp at e;obtain ⟨rfl,rfl⟩:=e
     refine ⟨φ,w,.tuple #[.bool false],?_,VR.tuple' (jL:=[.bool false]) (.cons (.bool false) (.nil φ)),ok,Fr.refl φ h w⟩
     have h0:l.off+0=0:=by omega
     simp only[Instr.next,h0,Sem.run_bind,Fx,Result.andThen_ok,Sem.run_pure]
   · simp at e
 · simp at e
end Go.Ab
end
section
namespace Go.Ab
variable {E:Env}
def DR (φ:Ph):rR→Deferred→Prop
 | .call f args,d'=>∃cap,d'.target= .fn (.func f) cap∧LR φ args (d'.args++cap).toList
 | .col r,d'=>∃l,φ r=some l∧d'.target= .collected l.g6
def ZV (φ:Ph):List rR→List Deferred→Prop
 | [],[]=>True
 | d::ds,d'::Ar=>DR φ d d'∧ZV φ ds Ar
 | _,_=>False
theorem DR.mono {φ φ':Ph} (hle:φ.le φ') {d:rR} {d':Deferred} (h:DR φ d d'):DR φ' d d':=by
 cases d with
 | call f args=>obtain ⟨c,a,b⟩:=h;exact ⟨c,a,b.mono hle⟩
 | col r=>obtain ⟨l,a,b⟩:=h;exact ⟨l,hle _ _ a,b⟩
theorem ZV.mono {φ φ':Ph} (hle:φ.le φ'):∀{ds:List rR} {Ar:List Deferred} (_:ZV φ ds Ar),ZV φ' ds Ar
 | [],[],_=>trivial
 | _::_,_::_,h=>⟨h.1.mono hle,ZV.mono hle h.2⟩
structure SR (φ:Ph) (ts:List AV) (ds:List rR) (a:Act):Prop where
 ts:LR φ ts a.tmps.toList
 ds:ZV φ ds a.defers
theorem SR.mono {φ φ':Ph} (hle:φ.le φ') {ts:List AV} {ds:List rR} {a:Act} (h:SR φ ts ds a):SR φ' ts ds a:=⟨h.ts.mono hle,h.ds.mono hle⟩
def oI (φ:Ph) (b:Frame) (K:Bool→List Frame):RC→Prop
 | .no=>b.roundOf=none∧∀fr:Frame,fr.kind=b.kind→tryRecover fr (K false)=none
 | .jM v=>b.roundOf=none∧(∃v',VR φ v v'∧∀fr:Frame,fr.kind=b.kind→tryRecover fr (K false)=some (v',K true))∧∀fr:Frame,fr.kind=b.kind→tryRecover fr (K true)=none
 | .done=>b.roundOf=none∧∀fr:Frame,fr.kind=b.kind→tryRecover fr (K true)=none
 | .JB l=>∃ll,φ l=some ll∧b.roundOf=some ll.g6
def cur (K:Bool→List Frame):RC→List Frame
 | .done=>K true
 | _=>K false
def RC.pF:RC→Bool
 | .JB _=>true
 | _=>false
theorem oI.mono {φ φ':Ph} (hle:φ.le φ') {b:Frame} {K:Bool→List Frame}:∀{rc:RC} (_:oI φ b K rc),oI φ' b K rc
 | .no,h=>h
 | .jM _,h=>let ⟨n,⟨v',a,b⟩,c⟩:=h;⟨n,⟨v',a.mono hle,b⟩,c⟩
 | .done,h=>h
 | .JB _,h=>let ⟨l,a,b⟩:=h;⟨l,hle _ _ a,b⟩
theorem oI.plain {φ:Ph} {b:Frame} {K:Bool→List Frame} {rc:RC} (h:oI φ b K rc) (hn:rc.pF=false):b.roundOf=none:=by
 cases rc with
 | no=>exact h.1
 | jM v=>exact h.1
 | done=>exact h.1
 | JB l=>simp [RC.pF] at hn
inductive ExR (φ:Ph):lY→Exit→Prop
 | normal:ExR φ .normal .normal
 | exit (id:Nat):ExR φ (.exit id) (.exit id)
 | ret:ExR φ .ret .ret
 | panic (v:AV) (v':Value) (h:VR φ v v'):ExR φ (.panic v) (.panic [{v:=v',recovered:=false}])
def mF (E:Env) (f:FuncId) (args:List AV) (h:au) (v:AV) (h':au):Prop:=
 ∀(φ:Ph) (w:World) (vs:List Value),OK E φ h w→LR φ args vs→(callFunc f vs.toArray).run E.P w= .ok (.enter f vs.toArray) w∧
  ∀cs,∃φ' w' v' fr,VR φ' v v'∧OK E φ' h' w'∧Fr φ h w φ' h' w'∧
   Steps E.P (lone (Frame.enter E.P f vs.toArray .normal) cs w) (lone fr cs w')∧fr.fn=f∧fr.leaving E.P w' (.returned v')
def ON (E:Env) (f:FuncId) (args:List AV) (h:au) (v:AV) (h':au):Prop:=
 ∀(φ:Ph) (w:World) (vs:List Value),OK E φ h w→LR φ args vs→(callFunc f vs.toArray).run E.P w= .ok (.enter f vs.toArray) w∧
  ∀cs,∃φ' w' v' fr,VR φ' v v'∧OK E φ' h' w'∧Fr φ h w φ' h' w'∧
   Steps E.P (lone (Frame.enter E.P f vs.toArray .normal) cs w) (lone fr cs w')∧fr.fn=f∧fr.leaving E.P w' (.panicked [{v:=v',recovered:=false}])
inductive pG (E:Env) (φ:Ph) (w:World):Fn→List Value→Next→Frame→Prop
 | fn (f:FuncId) (vs:List Value) (hr:(callFunc f vs.toArray).run E.P w= .ok (.enter f vs.toArray) w):pG E φ w (.fn f) vs (.enter f vs.toArray) (Frame.enter E.P f vs.toArray .normal)
 | Bh (l:Nat) (ll:Loc) (hl:φ l=some ll) (vs:List Value) (f:FuncId) (tmps:Array Value) (assign body:Code) (hr:(Instr.yield ll.g6 vs.toArray).run E.P w= .ok (.round ll.g6 f tmps assign body) w):
  pG E φ w (.Bh l) vs (.round ll.g6 f tmps assign body) (Frame.round ll.g6 f tmps assign body .normal)
def SW (φ:Ph):Fn→Prop
 | .fn _=>True
 | .Bh l=>∃ll,φ l=some ll
def MK (E:Env) (F:Fn) (args:List AV) (h:au) (v:AV) (h':au):Prop:=
 ∀(φ:Ph) (w:World) (vs:List Value),OK E φ h w→SW φ F→LR φ args vs→∃n start,pG E φ w F vs n start∧
  ∀c cs,∃φ' w' v',VR φ' v v'∧OK E φ' h' w'∧Fr φ h w φ' h' w'∧Steps E.P (lone start (c::cs) w) (lone (c.finish v') cs w')
def ML (E:Env) (F:Fn) (args:List AV) (h:au) (v:AV) (h':au):Prop:=
 ∀(φ:Ph) (w:World) (vs:List Value),OK E φ h w→SW φ F→LR φ args vs→∃n start,pG E φ w F vs n start∧
  ∀c cs,∃φ' w' v',VR φ' v v'∧OK E φ' h' w'∧Fr φ h w φ' h' w'∧Steps E.P (lone start (c::cs) w) (lone (c.raise [{v:=v',recovered:=false}]) cs w')
theorem mF.any {f:FuncId} {args:List AV} {h:au} {v:AV} {h':au} (r:mF E f args h v h'):MK E (.fn f) args h v h':=fun φ w vs ok _ hl=>by
 obtain ⟨h1,h2⟩:=r φ w vs ok hl
 refine ⟨_,_,.fn f vs h1,fun c cs=>?_⟩
 obtain ⟨φ',w',v',fr,x1,x2,x3,x4,_,x5⟩:=h2 (c::cs)
 exact ⟨φ',w',v',x1,x2,x3,x4.trans (.one (step_leave_returned x5))⟩
theorem ON.any {f:FuncId} {args:List AV} {h:au} {v:AV} {h':au} (r:ON E f args h v h'):ML E (.fn f) args h v h':=fun φ w vs ok _ hl=>by
 obtain ⟨h1,h2⟩:=r φ w vs ok hl
 refine ⟨_,_,.fn f vs h1,fun c cs=>?_⟩
 obtain ⟨φ',w',v',fr,x1,x2,x3,x4,_,x5⟩:=h2 (c::cs)
 exact ⟨φ',w',v',x1,x2,x3,x4.trans (.one (step_leave_panicked x5))⟩
structure iN (E:Env) (call:bq):Prop where
 ret:∀f args h v h',call f args h= .ret v h'→MK E f args h v h'
 panic:∀f args h v h',call f args h= .panic v h'→ML E f args h v h'
structure lG (E:Env):Prop where
 ext:ZQ E
 jm:∀f g,E.jm f=some g→∀args h v h',g args h=some (v,h')→mF E f args h v h'
 names:∀(f:FuncId) (fn:Func),E.P.funcs[f]? =some fn→fn.name≠ "runtime.NumGoroutine"
 mixed:E.P.follows .mixedOrders=true
theorem SX {φ:Ph} {ts:List AV} {a:Act} (h:LR φ ts a.tmps.toList) (d:Option Tmp) {v:AV} {v':Value} (hv:VR φ v v'):LR φ (dt ts d v) (a.put d v').tmps.toList:=by
 cases d with
 | none=>exact h
 | some d=>simp only[dt,Act.put,Array.toList_setIfInBounds];exact h.set hv d
theorem put_defers (a:Act) (d:Option Tmp) (v:Value):(a.put d v).defers=a.defers:=by cases d<;>rfl
theorem SR.put {φ:Ph} {ts:List AV} {ds:List rR} {a:Act} (h:SR φ ts ds a) (d:Option Tmp) {v:AV} {v':Value} (hv:VR φ v v'):SR φ (dt ts d v) ds (a.put d v'):=
 ⟨SX h.ts d hv,by rw[put_defers];exact h.ds⟩
theorem wY {φ:Ph} {ops:Array Oper} {ts:List AV} {a:Act} (h:LR φ ts a.tmps.toList) (o:Oper):Region.wanted o (yielded ops a.tmps)=cJ ops ts o:=by
 unfold Region.wanted cJ
 cases o.guard with
 | none=>rfl
 | some g=>
   obtain ⟨j,want⟩:=g
   simp only[yielded]
   cases hd:(ops[j]?).bind (·.dst) with
   | none=>simp
   | some d=>
     simp only[Option.bind_some]
     cases hx:ts[d]? with
     | none=>
       have:a.tmps[d]? =none:=by
        have h1:=List.getElem?_eq_none_iff.1 hx
        rw[h.1] at h1
        have:=List.getElem?_eq_none_iff.2 h1
        simpa using this
       simp [this]
     | some x=>
       obtain ⟨y,hy,hv⟩:=h.get hx
       have Xj:a.tmps[d]? =some y:=by simpa using hy
       rw[Xj]
       cases hv with
       | any _ h=>cases y<;>first | (simp;done) | cases h
       | _=>simp
section
variable {b:Frame} {a:Act} {k:List Item} {cs:List Frame} {w:World} {ops:Array Oper} {i:Nat} {rest:List Nat} {o:Oper}
theorem vv (ho:ops[i]? =some o) (v:Value):(b.atR a (.inRegion ops (i::rest)::k)).finish v=b.atR (a.put o.dst v) (.inRegion ops rest::k):=by
 rw[Frame.finish_atR,ho];rfl
theorem n6 {P:Program} (l4:o.semAt b.roundOf a.eval=execOp a.eval o) (ho:ops[i]? =some o) (hw:Region.wanted o (yielded ops a.tmps)=true) {v:Value} {w':World} (hr:(execOp a.eval o).run P w= .ok (.value v) w'):
 step P (lone (b.atR a (.inRegion ops (i::rest)::k)) cs w)= .next (lone (b.atR (a.put o.dst v) (.inRegion ops rest::k)) cs w'):=by
 rw[←vv ho]
 exact step_lone_go (by rw[stepGR_op (rest:=rest) ho hw,l4];simp [stepG.apply,hr])
theorem JY {P:Program} (l4:o.semAt b.roundOf a.eval=execOp a.eval o) (ho:ops[i]? =some o) (hw:Region.wanted o (yielded ops a.tmps)=true) {w':World} (hr:(execOp a.eval o).run P w= .ok .skip w'):
 step P (lone (b.atR a (.inRegion ops (i::rest)::k)) cs w)= .next (lone (b.atR (a.put o.dst undef) (.inRegion ops rest::k)) cs w'):=by
 rw[←vv ho]
 exact step_lone_go (by rw[stepGR_op (rest:=rest) ho hw,l4];simp [stepG.apply,hr])
theorem yz {φ:Ph} (l4:o.semAt b.roundOf a.eval=execOp a.eval o) (ho:ops[i]? =some o) (hw:Region.wanted o (yielded ops a.tmps)=true) {F:Fn} {vs:List Value} {n:Next} {start:Frame} (hp:pG E φ w F vs n start) (hr:(execOp a.eval o).run E.P w= .ok n w):
 step E.P (lone (b.atR a (.inRegion ops (i::rest)::k)) cs w)= .next (lone start (b.atR a (.inRegion ops (i::rest)::k)::cs) w):=by
 cases hp with
 | fn f vs _=>exact step_lone_go (by rw[stepGR_op (rest:=rest) ho hw,l4];simp [stepG.apply,hr,Frame.atR])
 | Bh l ll hl vs f tmps assign body _=>exact step_lone_go (by rw[stepGR_op (rest:=rest) ho hw,l4];simp [stepG.apply,hr,Frame.atR])
theorem SY {P:Program} (l4:o.semAt b.roundOf a.eval=execOp a.eval o) (ho:ops[i]? =some o) (hw:Region.wanted o (yielded ops a.tmps)=true) {v:Value} {w':World} (hr:(execOp a.eval o).run P w= .halt (.panic v) w'):
 step P (lone (b.atR a (.inRegion ops (i::rest)::k)) cs w)= .next (lone {b.atR a (.inRegion ops (i::rest)::k) with mode:= .panicking [{v,recovered:=false}]} cs w'):=by
 rw[←Frame.raise_atR]
 exact step_lone_go (by rw[stepGR_op (rest:=rest) ho hw,l4];simp [stepG.apply,hr])
theorem Qx {P:Program} (l4:o.semAt b.roundOf a.eval=execOp a.eval o) (ho:ops[i]? =some o) (hw:Region.wanted o (yielded ops a.tmps)=true) {d:Deferred} {w':World} (hr:(execOp a.eval o).run P w= .ok (.defer d) w'):
 step P (lone (b.atR a (.inRegion ops (i::rest)::k)) cs w)= .next (lone (b.atR ({a with defers:=d::a.defers}.put o.dst undef) (.inRegion ops rest::k)) cs w'):=by
 have:({b.atR a (.inRegion ops (i::rest)::k) with defers:=d::a.defers}:Frame).finish undef=
  b.atR ({a with defers:=d::a.defers}.put o.dst undef) (.inRegion ops rest::k):=by
  have:=Frame.finish_atR b {a with defers:=d::a.defers} ops i rest k undef
  rw[ho] at this;exact this
 refine step_lone_go ?_
 rw[stepGR_op (rest:=rest) ho hw,l4]
 simp only[stepG.apply,Sem.runT_eq,hr,GStep.bare_after]
 exact congrArg (fun fr=>GStep.go {frame:=fr,callers:=cs,status:= .running,dying:=none} w') this
theorem MN {P:Program} (As:b.roundOf=none) (l4:o.semAt b.roundOf a.eval=execOp a.eval o) (ho:ops[i]? =some o) (hw:Region.wanted o (yielded ops a.tmps)=true) {w':World} (hr:(execOp a.eval o).run P w= .ok .recover w') {v:Value} {jL:List Frame}
 (ht:tryRecover (b.atR a (.inRegion ops (i::rest)::k)) cs=some (v,jL)):
 step P (lone (b.atR a (.inRegion ops (i::rest)::k)) cs w)= .next (lone (b.atR (a.put o.dst v) (.inRegion ops rest::k)) jL w'):=by
 rw[←vv ho]
 refine step_lone_go ?_
 rw[stepGR_op (rest:=rest) ho hw,l4]
 have SZ:(b.atR a (.inRegion ops (i::rest)::k)).roundOf=none:=As
 simp only[stepG.apply,Sem.runT_eq,if_true,hr,GStep.bare_after,SZ,ht,GStep.bare_go]
theorem wc {P:Program} (As:b.roundOf=none) (l4:o.semAt b.roundOf a.eval=execOp a.eval o) (ho:ops[i]? =some o) (hw:Region.wanted o (yielded ops a.tmps)=true) {w':World} (hr:(execOp a.eval o).run P w= .ok .recover w')
 (ht:tryRecover (b.atR a (.inRegion ops (i::rest)::k)) cs=none):
 step P (lone (b.atR a (.inRegion ops (i::rest)::k)) cs w)= .next (lone (b.atR (a.put o.dst .nilIface) (.inRegion ops rest::k)) cs w'):=by
 rw[←vv ho]
 refine step_lone_go ?_
 rw[stepGR_op (rest:=rest) ho hw,l4]
 have SZ:(b.atR a (.inRegion ops (i::rest)::k)).roundOf=none:=As
 simp only[stepG.apply,Sem.runT_eq,if_true,hr,GStep.bare_after,SZ,ht,GStep.bare_go]
end
def aea (P:Program) (m:Machine) (b:Frame) (ops:Array Oper) (rest:List Nat) (k:List Item) (cs:List Frame):Exit→Act→World→Prop
 | .normal,a,w=>Steps P m (lone (b.atR a (.inRegion ops rest::k)) cs w)
 | .panic chain,a,w=>∃todo,Steps P m (lone {b.atR a todo with mode:= .panicking chain} cs w)
 | _,_,_=>False
def OO (φ:Ph):Fn→Target→List Value→List Value→Prop
 | .fn f,t,vs,all=>∃cap:List Value,t= .fn (.func f) cap.toArray∧all=vs++cap
 | .Bh l,t,vs,all=>∃ll,φ l=some ll∧t= .fn (.yield ll.g6) #[]∧all=vs
theorem OO.aeb {φ:Ph} {F:Fn} {t:Target} {vs all:List Value} (h:OO φ F t vs all):SW φ F:=by
 cases F with
 | fn f=>trivial
 | Bh l=>obtain ⟨ll,h,_⟩:=h;exact ⟨ll,h⟩
theorem Dj {φ:Ph} (hg:GL E φ) {ts:List AV} {a:Act} (ht:LR φ ts a.tmps.toList) {c:Call} {f:Fn} {args:List AV} (h:callee E ts c=some (f,args)) (ty:TypeId):
 ∃(t:Target) (vs all:List Value),LR φ args all∧OO φ f t vs all∧∀w,(resolve a.eval c ty).run E.P w= .ok {target:=t,args:=vs.toArray} w:=by
 unfold callee at h
 split at h
 · rename_i x hcx
   split at h
   · rename_i g first captured as hx has
     simp at h;obtain ⟨rfl,rfl⟩:=h
     have h1:=oG hg ht hx
     have h2:=iM hg ht has
     generalize mf:a.eval x=cv at h1
     obtain ⟨Xk,jL,rfl,hf,hc⟩:=h1.C3
     refine ⟨.fn (.func g) jL.toList.toArray,Xk.toList++c.args.toList.map a.eval,_,?_,⟨jL.toList,rfl,rfl⟩,fun w=>?_⟩
     · rw[List.append_assoc]
       have:=(hf.append h2).append hc
       simpa [List.append_assoc] using this
     · simp [resolve,hcx,Deferred.ofValue,mf,map_toArray]
   · rename_i l as hx has
     simp at h;obtain ⟨rfl,rfl⟩:=h
     have h1:=oG hg ht hx
     have h2:=iM hg ht has
     generalize mf:a.eval x=cv at h1
     cases h1 with
     | yield hl=>
       refine ⟨_,c.args.toList.map a.eval,_,h2,⟨_,hl,rfl,rfl⟩,fun w=>?_⟩
       simp [resolve,hcx,Deferred.ofValue,mf,map_toArray]
   · simp at h
 · simp at h
theorem FA {φ:Ph} {w:World} {F:Fn} {t:Target} {vs all:List Value} (ht:OO φ F t vs all) {n:Next} {start:Frame} (hp:pG E φ w F all n start):(invoke t vs.toArray).run E.P w= .ok n w:=by
 cases hp with
 | fn f rY hr=>
   obtain ⟨cap,rfl,rfl⟩:=ht
   simpa [invoke] using hr
 | Bh l ll hl rY f tmps assign body hr=>
   obtain ⟨ll',ZW,rfl,rfl⟩:=ht
   rw[hl] at ZW;simp at ZW;subst ZW
   simpa [invoke] using hr
theorem r7 {φ:Ph} {b:Frame} {K:Bool→List Frame} {rc:RC} (gZ:oI φ b K rc) {o:Oper} (h:rc.pF=false∨∀c,o.op≠ .defer c) (ρ:Operand→Value):o.semAt b.roundOf ρ=execOp ρ o:=by
 rcases h with h | h
 · rw[gZ.plain h];rfl
 · exact Oper.semAt_eq _ _ _ h
end Go.Ab
end
section
namespace Go.Ab
variable {E:Env}
theorem Dk {rc:RC} (h:∀l,rc= .JB l→False):rc.pF=false:=by
 cases rc<;>first | rfl | exact (h _ rfl).elim
theorem OK.gl {φ:Ph} {h:au} {w:World} (ok:OK E φ h w):GL E φ:=ok.wN
inductive uj (E:Env) (call:bq) (φ:Ph) (ts:List AV) (h:au) (rc:RC) (o:Oper) (a:Act) (w:World):Ah→Prop
 | val (v:AV) (h':au) (φ':Ph) (w':World) (v':Value) (hv:VR φ' v v') (ok:OK E φ' h' w') (fr:Fr φ h w φ' h' w')
  (run:(execOp a.eval o).run E.P w= .ok (.value v') w'):uj E call φ ts h rc o a w (.val v h')
 | skip (h':au) (φ':Ph) (w':World) (ok:OK E φ' h' w') (fr:Fr φ h w φ' h' w')
  (run:(execOp a.eval o).run E.P w= .ok .skip w'):uj E call φ ts h rc o a w (.val AV.undef h')
 | enter (v:AV) (h':au) (F:Fn) (args:List AV) (all:List Value) (hr:MK E F args h v h') (hf:SW φ F) (hl:LR φ args all)
  (run:∀n start,pG E φ w F all n start→(execOp a.eval o).run E.P w= .ok n w):uj E call φ ts h rc o a w (.val v h')
 | Xl (v:AV) (h':au) (F:Fn) (args:List AV) (all:List Value) (hr:ML E F args h v h') (hf:SW φ F) (hl:LR φ args all)
  (run:∀n start,pG E φ w F all n start→(execOp a.eval o).run E.P w= .ok n w):uj E call φ ts h rc o a w (.panic v h')
 | defer (d:rR) (d':Deferred) (E_:rc.pF=false) (hd:DR φ d d') (run:(execOp a.eval o).run E.P w= .ok (.defer d') w):uj E call φ ts h rc o a w (.defer d)
 | panic (v:AV) (v':Value) (hv:VR φ v v') (run:(execOp a.eval o).run E.P w= .halt (.panic v') w):uj E call φ ts h rc o a w (.panic v h)
 | s_ (v:AV) (gZ:rc= .jM v) (run:(execOp a.eval o).run E.P w= .ok .recover w):uj E call φ ts h rc o a w (.s_ v)
 | S0 (gZ:∀v,rc≠ .jM v) (E_:rc.pF=false) (run:(execOp a.eval o).run E.P w= .ok .recover w):uj E call φ ts h rc o a w (.val .nilIface h)
 | fail (why:String) (q:Option Oper):uj E call φ ts h rc o a w (.fail why q)
theorem JZ {t:TypeId} {name:String} {f:FuncId} (h:ym E t name=some f) (v:Value) (w:World):(method (E.P.types.size+Made.depth) t v name).run E.P w= .ok (f,v) w:=by
 unfold ym at h
 split at h
 · rename_i i hi
   split at h
   · rename_i m hm
     split at h
     · rename_i hp
       split at h
       · simp at h
       · rename_i g d eY hf hu
         simp at h;subst h
         have Qq:m.path.toList=[]:=by simpa using hp
         have e:E.P.types.size+Made.depth=(E.P.types.size+99)+1:=rfl
         rw[e,method]
         have hti:(typeInfo t).run E.P w= .ok i w:=by simp [typeInfo,hi]
         simp only[Sem.run_bind,hti,Result.andThen_ok,hm,Qq,follow,Sem.run_pure,hf,receiverAt,run_underlying hu]
         cases d with
         | pointer x=>exact absurd rfl (eY x)
         | _=>simp [Place.get]
       · simp at h
     · simp at h
   · simp at h
 · simp at h
theorem yA {call:bq} {φ:Ph} {ts:List AV} {h:au} {rc:RC} {o:Oper} {a:Act} {w:World} {s:Sem Value} {v:AV} {h':au} (hd:Qt E φ h w (s.run E.P w) v h')
 (he:execOp a.eval o=(do pure (.value (←s)):Sem Next)):uj E call φ ts h rc o a w (.val v h'):=by
 obtain ⟨φ',w',v',hr,hv,ok,fr⟩:=hd
 exact .val v h' φ' w' v' hv ok fr (by rw[he];exact fI hr)
set_option maxHeartbeats 1000000 in
theorem wZ (hE:lG E) {call:bq} (dN:iN E call) {φ:Ph} {ts:List AV} {h:au} {rc:RC} {o:Oper} {a:Act} {w:World} (ht:LR φ ts a.tmps.toList) (ok:OK E φ h w):
 uj E call φ ts h rc o a w (dA E call ts h rc o):=by
 have ev:∀{x:Operand} {v:AV},fb E ts x=some v→VR φ v (a.eval x):=fun h=>oG ok.gl ht h
 obtain ⟨dst,op,ty,pos,after,guard⟩:=o
 unfold dA
 simp only
 split
 ·
  split
  · rename_i ha hx
    split
    · rename_i h' kb
      obtain ⟨w',hr,qI,tx⟩:=MF ok (ev ha) (ev hx) kb
      exact .skip h' φ w' qI tx (by simp [execOp,hr])
    · exact .fail _ _
  · exact .fail _ _
 ·
  split
  · rename_i hm hk hx
    split
    · rename_i h' kb
      obtain ⟨w',hr,qI,tx⟩:=ui ok (ev hm) (ev hk) (ev hx) kb
      exact .skip h' φ w' qI tx (by simp [execOp,hr])
    · exact .fail _ _
  · exact .fail _ _
 ·
  split
  · rename_i hm hk hx
    split
    · rename_i h' kb
      obtain ⟨w',hr,qI,tx⟩:=ui ok (ev hm) (ev hk) (ev hx) kb
      exact .skip h' φ w' qI tx (by simp [execOp,hr])
    · exact .fail _ _
  · exact .fail _ _
 ·
  rename_i src dst x
  split
  · rename_i v h' hc
    cases hx:fb E ts x with
    | none=>rw[hx] at hc;simp [Gm] at hc
    | some xv=>
      rw[hx] at hc
      exact yA (Qv ok hc (ev hx)) rfl
  · exact .fail _ _
 ·
  split
  · rename_i hi
    split
    · rename_i hn
      exact yA (Qw ok hn (ev hi) ty) rfl
    · exact .fail _ _
  · exact .fail _ _
 ·
  split
  · rename_i hx
    have h1:=ev hx
    generalize mf:a.eval _=cv at h1
    cases h1 with
    | iface t1 v1 v' hv=>
    exact .panic _ _ (.iface _ _ v' hv) (by simp [execOp,mf,Instr.panic])
  · exact .fail _ _
 ·
  split
  · exact .fail _ _
  · rename_i f args E_ hc
    obtain ⟨t,vs,all,hl,⟨cap,rfl,rfl⟩,hr⟩:=Dj ok.gl ht hc ty
    exact .defer _ {target:= .fn (.func f) cap.toArray,args:=vs.toArray} (Dk E_) ⟨cap.toArray,rfl,by simpa using hl⟩ (by simp [execOp,hr])
  · exact .fail _ _
 ·
  rename_i c
  split
  ·
   rename_i FB
   split
   · rename_i s x has
     have hl:=iM ok.gl ht has
     obtain ⟨s',r1,hr1,hs,hl1⟩:=hl.dB
     obtain ⟨x',r2,hr2,hx,Sm⟩:=hl1.dB
     have h0:c.args.map a.eval= #[s',x']:=by rw[map_toArray,hr1,hr2,Sm.j6]
     split
     · rename_i hap
       exact yA (JU ok hap hs hx ty) (by simp [execOp,resolve,FB,invoke,builtin,h0])
     · exact .fail _ _
   · exact .fail _ _
  ·
   rename_i FB
   split
   · rename_i s x has
     have hl:=iM ok.gl ht has
     obtain ⟨s',r1,hr1,hs,hl1⟩:=hl.dB
     obtain ⟨x',r2,hr2,hx,Sm⟩:=hl1.dB
     have h0:c.args.map a.eval= #[s',x']:=by rw[map_toArray,hr1,hr2,Sm.j6]
     split
     · rename_i hap
       exact yA (Qu ok hap hs hx ty) (by simp [execOp,resolve,FB,invoke,builtin,h0])
     · exact .fail _ _
   · exact .fail _ _
  ·
   rename_i FB
   have iv:(execOp a.eval ⟨dst,.call c,ty,pos,after,guard⟩).run E.P w= .ok .recover w:=by simp [execOp,resolve,FB,invoke,builtin]
   split
   · exact .s_ _ rfl iv
   · exact .fail _ _
   · rename_i eY E_
     exact .S0 (fun v e=>eY v e) (Dk E_) iv
  ·
   rename_i fo FB
   split
   · rename_i F args hc
     obtain ⟨t,vs,all,hl,htg,hr⟩:=Dj ok.gl ht hc ty
     have iv:∀n start,pG E φ w F all n start→(execOp a.eval ⟨dst,.call c,ty,pos,after,guard⟩).run E.P w= .ok n w:=fun n start hp=>by
      have:=FA htg hp
      simp [execOp,hr,this]
     split
     · rename_i g hg
       split
       · rename_i v h' hgv
         cases F with
         | fn f=>exact .enter v h' (.fn f) args all (hE.jm f g hg args h v h' hgv).any trivial hl iv
         | Bh l=>simp [kJ] at hg
       · exact .fail _ _
     · split
       · rename_i v h' mf
         exact .enter v h' F args all (dN.ret F args h v h' mf) htg.aeb hl iv
       · rename_i v h' mf
         exact .Xl v h' F args all (dN.panic F args h v h' mf) htg.aeb hl iv
       · exact .fail _ _
   · exact .fail _ _
  ·
   rename_i r name FB
   split
   · rename_i t x args hx has
     split
     · rename_i f hm
       have h1:=ev hx
       generalize mf:a.eval r=cv at h1
       cases h1 with
       | iface t1 v1 v' hv=>
       have hl:LR φ (x::args) (v'::c.args.toList.map a.eval):= .cons hv (iM ok.gl ht has)
       have iv:∀n start,pG E φ w (.fn f) (v'::c.args.toList.map a.eval) n start→(execOp a.eval ⟨dst,.call c,ty,pos,after,guard⟩).run E.P w= .ok n w:=fun n start hp=>by
        cases hp with
        | fn f rY hr=>
        have e1:(#[v']++(c.args.map a.eval))=(v'::c.args.toList.map a.eval).toArray:=by rw[map_toArray];simp
        have e2:(#[Value.iface t v']++c.args.map a.eval).extract 1 (#[Value.iface t v']++c.args.map a.eval).size=c.args.map a.eval:=by
         apply Array.ext';simp
         exact List.take_of_length_le (by simp)
        have e3:(#[Value.iface t v']++c.args.map a.eval)[0]? =some (Value.iface t v'):=by rw[Array.getElem?_append];rfl
        simp only[execOp,resolve,FB,mf,Sem.run_bind,Sem.run_pure,Result.andThen_ok,invoke,e3,e2,callMethod,run_program,JZ hm,e1,hr]
       split
       · rename_i v h' aba
         exact .enter v h' (.fn f) _ _ (dN.ret (.fn f) _ h v h' aba) trivial hl iv
       · rename_i v h' aba
         exact .Xl v h' (.fn f) _ _ (dN.panic (.fn f) _ h v h' aba) trivial hl iv
       · exact .fail _ _
     · exact .fail _ _
   · exact .fail _ _
  · exact .fail _ _
 · exact .fail _ _
structure aec (E:Env) (φ:Ph) (h:au) (w:World) (b:Frame) (K:Bool→List Frame) (ops:Array Oper) (rest:List Nat) (k:List Item) (m:Machine) (e:lY) (s':St):Prop where
 is:∃φ' w' a' e',ExR φ' e e'∧SR φ' s'.ts s'.ds a'∧OK E φ' s'.h w'∧Fr φ h w φ' s'.h w'∧oI φ' b K s'.rc∧aea E.P m b ops rest k (cur K s'.rc) e' a' w'
set_option maxHeartbeats 1000000 in
theorem Gw (hE:lG E) {call:bq} (dN:iN E call) {ops:Array Oper} {i:Nat} {rest:List Nat} {o:Oper} (ho:ops[i]? =some o) {s s':St} {e:lY} (rb:Hz E call s o= .ok e s')
 {φ:Ph} {a:Act} {w:World} {b:Frame} {k:List Item} {K:Bool→List Frame} (hs:SR φ s.ts s.ds a) (ok:OK E φ s.h w) (gZ:oI φ b K s.rc) (hw:Region.wanted o (yielded ops a.tmps)=true):
 aec E φ s.h w b K ops rest k (lone (b.atR a (.inRegion ops (i::rest)::k)) (cur K s.rc) w) e s':=by
 have l4:(s.rc.pF=false∨∀c,o.op≠ .defer c)→o.semAt b.roundOf a.eval=execOp a.eval o:=fun h=>r7 gZ h _
 unfold Hz at rb
 split at rb
 · rename_i v hp
   have qe:s.rc.pF=false∨∀c,o.op≠ .defer c:= .inr (fun c e=>by rw[e] at hp;simp [bC] at hp)
   simp at rb;obtain ⟨rfl,rfl⟩:=rb
   obtain ⟨v',hv,hr⟩:=Bl hE.ext ok.gl hs.ts hp
   exact ⟨φ,w,_,_,.normal,hs.put o.dst hv,ok,Fr.refl _ _ _,gZ,.one (n6 (l4 qe) ho hw (hr w))⟩
 · split at rb
   · rename_i v hp
     have qe:s.rc.pF=false∨∀c,o.op≠ .defer c:= .inr (fun c e=>by rw[e] at hp;simp [eH] at hp)
     simp at rb;obtain ⟨rfl,rfl⟩:=rb
     obtain ⟨v',hv,hr⟩:=Bo ok.gl ok hs.ts hp
     exact ⟨φ,w,_,_,.normal,hs.put o.dst hv,ok,Fr.refl _ _ _,gZ,.one (n6 (l4 qe) ho hw (hr w rfl))⟩
   · split at rb
     · rename_i obj mk hp
       have qe:s.rc.pF=false∨∀c,o.op≠ .defer c:= .inr (fun c e=>by rw[e] at hp;simp [eO] at hp)
       split at rb
       · rename_i h' hn
         simp at rb;obtain ⟨rfl,rfl⟩:=rb
         obtain ⟨O,mk',J0,hr⟩:=yv ok.gl hs.ts hp
         obtain ⟨qI,tx,hle⟩:=ok.fresh (w':=w.alloc O) hn ⟨w.heap.size,0,0⟩ (by
          have:=J0.obj (φ.add s.h.nx ⟨w.heap.size,0,0⟩) w.heap.size (fun i m hm=>by
           unfold Ph.add;split
           · rename_i e;subst e;exact absurd (ok.B6 _ _ hm) (Nat.lt_irrefl _)
           · exact hm)
          rw[show (w.alloc O).heap=w.heap.push O from rfl]
          simpa using this)
          (fun c eY hc=>by rw[show (w.alloc O).heap=w.heap.push O from rfl,Array.getElem?_push,if_neg (by simpa using eY)]) (by simp) (Nat.le_refl _) rfl rfl rfl
         have hv:=J0.val (φ.add s.h.nx ⟨w.heap.size,0,0⟩) s.h.nx w.heap.size hle (by simp [Ph.add])
         exact ⟨_,_,_,_,.normal,(hs.mono hle).put o.dst hv,qI,tx,gZ.mono hle,.one (n6 (l4 qe) ho hw (hr w))⟩
       · simp at rb
     · have uo:=wZ hE dN (rc:=s.rc) (o:=o) hs.ts ok
       have qe:(∃d,dA E call s.ts s.h s.rc o= .defer d)∨(∃why q,dA E call s.ts s.h s.rc o= .fail why q)∨(s.rc.pF=false∨∀c,o.op≠ .defer c):=by
        by_cases hd:∃c,o.op= .defer c
        · obtain ⟨c,hd⟩:=hd
          unfold dA
          simp only[hd]
          split
          · exact .inr (.inl ⟨_,_,rfl⟩)
          · exact .inl ⟨_,rfl⟩
          · exact .inr (.inl ⟨_,_,rfl⟩)
        · exact .inr (.inr (.inr (fun c e=>hd ⟨c,e⟩)))
       generalize dA E call s.ts s.h s.rc o=eo at rb uo qe
       cases uo with
       | val v h' φ' w' v' hv tc fr run=>
         have qe:=(qe.resolve_left (by simp)).resolve_left (by simp)
         simp at rb;obtain ⟨rfl,rfl⟩:=rb
         exact ⟨φ',w',_,_,.normal,(hs.mono fr.ext).put o.dst hv,tc,fr,gZ.mono fr.ext,.one (n6 (l4 qe) ho hw run)⟩
       | skip h' φ' w' tc fr run=>
         have qe:=(qe.resolve_left (by simp)).resolve_left (by simp)
         simp at rb;obtain ⟨rfl,rfl⟩:=rb
         exact ⟨φ',w',_,_,.normal,(hs.mono fr.ext).put o.dst (VR.undef φ'),tc,fr,gZ.mono fr.ext,.one (JY (l4 qe) ho hw run)⟩
       | enter v h' F args all hr hf hl run=>
         have qe:=(qe.resolve_left (by simp)).resolve_left (by simp)
         simp at rb;obtain ⟨rfl,rfl⟩:=rb
         obtain ⟨n,start,hp,kb⟩:=hr φ w all ok hf hl
         obtain ⟨φ',w',v',hv,tc,fr,j4⟩:=kb (b.atR a (.inRegion ops (i::rest)::k)) (cur K s.rc)
         rw[vv ho] at j4
         exact ⟨φ',w',_,_,.normal,(hs.mono fr.ext).put o.dst hv,tc,fr,gZ.mono fr.ext,.head (yz (l4 qe) ho hw hp (run n start hp)) j4⟩
       | Xl v h' F args all hr hf hl run=>
         have qe:=(qe.resolve_left (by simp)).resolve_left (by simp)
         simp at rb;obtain ⟨rfl,rfl⟩:=rb
         obtain ⟨n,start,hp,kb⟩:=hr φ w all ok hf hl
         obtain ⟨φ',w',v',hv,tc,fr,j4⟩:=kb (b.atR a (.inRegion ops (i::rest)::k)) (cur K s.rc)
         rw[Frame.raise_atR] at j4
         exact ⟨φ',w',a,_,.panic v v' hv,hs.mono fr.ext,tc,fr,gZ.mono fr.ext,.inRegion ops (i::rest)::k,.head (yz (l4 qe) ho hw hp (run n start hp)) j4⟩
       | defer d d' E_ hd run=>
         simp at rb;obtain ⟨rfl,rfl⟩:=rb
         have h1:SR φ s.ts (d::s.ds) {a with defers:=d'::a.defers}:=⟨hs.ts,hd,hs.ds⟩
         exact ⟨φ,w,_,_,.normal,h1.put o.dst (VR.undef φ),ok,Fr.refl _ _ _,gZ,.one (Qx (r7 gZ (.inl E_) _) ho hw run)⟩
       | panic v v' hv run=>
         have qe:=(qe.resolve_left (by simp)).resolve_left (by simp)
         simp at rb;obtain ⟨rfl,rfl⟩:=rb
         exact ⟨φ,w,a,_,.panic v v' hv,hs,ok,Fr.refl _ _ _,gZ,_,.one (SY (l4 qe) ho hw run)⟩
       | s_ v agL run=>
         simp at rb;obtain ⟨rfl,rfl⟩:=rb
         rw[agL] at gZ ⊢
         have S1:=gZ.plain rfl
         have aed:=r7 gZ (o:=o) (.inl rfl) a.eval
         obtain ⟨_,⟨v',hv,htr⟩,aee⟩:=gZ
         exact ⟨φ,w,_,_,.normal,hs.put o.dst hv,ok,Fr.refl _ _ _,⟨S1,aee⟩,.one (MN S1 aed ho hw run (htr _ rfl))⟩
       | S0 eY E_ run=>
         simp at rb;obtain ⟨rfl,rfl⟩:=rb
         have Ft:∀fr:Frame,fr.kind=b.kind→tryRecover fr (cur K s.rc)=none:=by
          cases HO:s.rc with
          | no=>rw[HO] at gZ;exact gZ.2
          | jM v=>exact absurd HO (eY v)
          | done=>rw[HO] at gZ;exact gZ.2
          | JB l=>rw[HO] at E_;simp [RC.pF] at E_
         exact ⟨φ,w,_,_,.normal,hs.put o.dst .nilIface,ok,Fr.refl _ _ _,gZ,.one (wc (gZ.plain E_) (r7 gZ (.inl E_) _) ho hw run (Ft _ rfl))⟩
       | fail why q=>simp at rb
end Go.Ab
end
section
namespace Go.Ab
variable {E:Env}
def Gy (E:Env) (ts nm:List AV) (op:Op):Prop:=∀x∈op.operands,fb E ts x=fb E nm x
theorem yB {α β:Type} {f g:α→Option β}:∀{l:List α} (_:∀x∈l,f x=g x),eX f l=eX g l
 | [],_=>rfl
 | x::xs,h=>by simp only[eX,h x (by simp),yB (l:=xs) (fun y hy=>h y (by simp [hy]))]
theorem ql {ts nm:List AV} {l:List Operand} (h:∀x∈l,fb E ts x=fb E nm x):gI E ts l=gI E nm l:=yB h
theorem r_ {ts nm:List AV}:∀{l:List (Nat×Operand)} (_:∀x∈l.map (·.2),fb E ts x=fb E nm x),kZ E ts l=kZ E nm l
 | [],_=>rfl
 | (i,o)::l,h=>by simp only[kZ,h o (by simp),r_ (l:=l) (fun y hy=>h y (by simp at hy ⊢;exact .inr hy))]
theorem uq {ts nm:List AV} {o:Option Operand} (h:∀x∈o.toArray,fb E ts x=fb E nm x):nZ E ts o=nZ E nm o:=by
 cases o with
 | none=>rfl
 | some o=>simp only[nZ,h o (by simp)]
theorem yC {ts nm:List AV} {c:Call} (h:∀x∈c.operands,fb E ts x=fb E nm x):callee E ts c=callee E nm c:=by
 unfold callee
 cases hc:c.callee with
 | value f=>
   have h1:fb E ts f=fb E nm f:=h f (by simp [Call.operands,hc])
   have h2:gI E ts c.args.toList=gI E nm c.args.toList:=ql (fun x hx=>h x (by simp [Call.operands,hc];exact .inr (by simpa using hx)))
   simp only[h1,h2]
 | invoke _ _=>rfl
 | builtin _=>rfl
theorem oJ {ts nm:List AV} {c:Call} (h:∀x∈c.operands,fb E ts x=fb E nm x):gI E ts c.args.toList=gI E nm c.args.toList:=
 ql (fun x hx=>h x (by simp [Call.operands];exact .inr (by simpa using hx)))
theorem J1 {ts nm:List AV} {op:Op} (h:Gy E ts nm op):bC E ts op=bC E nm op:=by
 cases op with
 | call c=>
   have hc:=oJ (E:=E) (ts:=ts) (nm:=nm) (c:=c) h
   obtain ⟨callee,args,argTypes⟩:=c
   simp only at hc
   cases callee with
   | builtin b=>cases b<;>simp only[bC,hc]
   | value f=>cases f<;>simp only[bC,hc]
   | invoke r m=>simp only[bC]
 | build t ps=>
   have:kZ E ts ps.toList=kZ E nm ps.toList:=r_ (fun x hx=>h x (by simpa [Op.operands] using hx))
   simp only[bC,this]
 | makeFunc fn first captured=>
   cases fn with
   | func f=>
     have h1:gI E ts first.toList=gI E nm first.toList:=ql (fun x hx=>h x (by simp [Op.operands];exact .inl (by simpa using hx)))
     have h2:gI E ts captured.toList=gI E nm captured.toList:=ql (fun x hx=>h x (by simp [Op.operands];exact .inr (by simpa using hx)))
     simp only[bC,h1,h2]
   | _=>simp only[bC]
 | slice t x lo hi mx=>
   have h0:fb E ts x=fb E nm x:=h x (by simp [Op.operands])
   have h1:nZ E ts lo=nZ E nm lo:=uq (fun y hy=>h y (by simp [Op.operands] at hy ⊢;exact .inr (.inl hy)))
   have h2:nZ E ts hi=nZ E nm hi:=uq (fun y hy=>h y (by simp [Op.operands] at hy ⊢;exact .inr (.inr (.inl hy))))
   have h3:nZ E ts mx=nZ E nm mx:=uq (fun y hy=>h y (by simp [Op.operands] at hy ⊢;exact .inr (.inr (.inr hy))))
   simp only[bC,h0,h1,h2,h3]
 | move x=>simp only[bC,h x (by simp [Op.operands])]
 | assign x=>simp only[bC,h x (by simp [Op.operands])]
 | pick c a b=>simp only[bC,h c (by simp [Op.operands]),h a (by simp [Op.operands]),h b (by simp [Op.operands])]
 | nilCheck x=>simp only[bC,h x (by simp [Op.operands])]
 | binOp o t x y u=>simp only[bC,h x (by simp [Op.operands]),h y (by simp [Op.operands])]
 | unOp o t x=>simp only[bC,h x (by simp [Op.operands])]
 | convert s d x=>simp only[bC,h x (by simp [Op.operands])]
 | makeInterface t x=>simp only[bC,h x (by simp [Op.operands])]
 | fieldAddr s x f=>simp only[bC,h x (by simp [Op.operands])]
 | field s x f=>simp only[bC,h x (by simp [Op.operands])]
 | indexAddr t x i=>simp only[bC,h x (by simp [Op.operands]),h i (by simp [Op.operands])]
 | index t x i=>simp only[bC,h x (by simp [Op.operands]),h i (by simp [Op.operands])]
 | extract x i=>simp only[bC,h x (by simp [Op.operands])]
 | typeAssert x a b ok=>simp only[bC,h x (by simp [Op.operands])]
 | _=>simp only[bC]
theorem J2 {ts nm:List AV} {op:Op} (h:Gy E ts nm op) (hp:au):eH E ts hp op=eH E nm hp op:=by
 cases op with
 | call c=>
   have hc:=oJ (E:=E) (ts:=ts) (nm:=nm) (c:=c) h
   obtain ⟨callee,args,argTypes⟩:=c
   simp only at hc
   cases callee with
   | builtin b=>cases b<;>simp only[eH,hc]
   | value f=>simp only[eH]
   | invoke r m=>simp only[eH]
 | load t a=>simp only[eH,h a (by simp [Op.operands])]
 | convert s d x=>simp only[eH,h x (by simp [Op.operands])]
 | lookup t x i ok=>simp only[eH,h x (by simp [Op.operands]),h i (by simp [Op.operands])]
 | _=>simp only[eH]
theorem HQ {ts nm:List AV} {op:Op} (h:Gy E ts nm op):eO E ts op=eO E nm op:=by
 cases op with
 | buildSlice t n ps=>
   have:kZ E ts ps.toList=kZ E nm ps.toList:=r_ (fun x hx=>h x (by simpa [Op.operands] using hx))
   simp only[eO,this]
 | box t x=>simp only[eO,h x (by simp [Op.operands])]
 | makeSlice t l c=>simp only[eO,h l (by simp [Op.operands]),h c (by simp [Op.operands])]
 | makeMap t r=>
   cases r with
   | none=>simp only[eO]
   | some r=>simp only[eO,h r (by simp [Op.operands])]
 | range t x=>simp only[eO,h x (by simp [Op.operands])]
 | _=>simp only[eO]
theorem Dl {call:bq} {ts nm:List AV} {o:Oper} (h:Gy E ts nm o.op) (hp:au) (rc:RC):dA E call ts hp rc o=dA E call nm hp rc o:=by
 obtain ⟨dst,op,ty,pos,after,guard⟩:=o
 simp only at h
 unfold dA
 cases op with
 | call c=>
   have hc:=oJ (E:=E) (ts:=ts) (nm:=nm) (c:=c) h
   have FB:=yC (E:=E) (ts:=ts) (nm:=nm) (c:=c) h
   cases hcc:c.callee with
   | invoke r name=>
     have hr:fb E ts r=fb E nm r:=h r (by simp [Op.operands,Call.operands,hcc])
     simp only[hcc,hc,hr]
   | builtin b=>cases b<;>simp only[hcc,hc]
   | value f=>simp only[hcc,FB]
 | defer c=>simp only[yC (E:=E) (ts:=ts) (nm:=nm) (c:=c) h]
 | store t a x=>simp only[h a (by simp [Op.operands]),h x (by simp [Op.operands])]
 | mapUpdate t m k x=>simp only[h m (by simp [Op.operands]),h k (by simp [Op.operands]),h x (by simp [Op.operands])]
 | insert t m k x=>simp only[h m (by simp [Op.operands]),h k (by simp [Op.operands]),h x (by simp [Op.operands])]
 | convert s d x=>simp only[h x (by simp [Op.operands])]
 | next i s=>simp only[h i (by simp [Op.operands])]
 | panic x=>simp only[h x (by simp [Op.operands])]
 | _=>rfl
end Go.Ab
end
