import Derived.Laws.BitsLemmas
import Derived.Laws.RangeString
import Derived.Defers
import Derived.AtR
import Derived.RangeFuncNested
import Derived.Test.YtijehnelcbdlgaaGreatA1
set_option linter.unusedVariables false
set_option linter.unusedSimpArgs false
section
namespace Go.Ab
variable {E:Env}
def TA (E:Env) (φ:Ph) (h:az) (w:World) (r:Result Value) (v:AV) (h':az):Prop:=
 ∃φ' w' v',r= .ok v' w'∧VR φ' v v'∧OK E φ' h' w'∧Fr φ h w φ' h' w'
theorem Ba {φ:Ph} {vs:List AV} {yk:List Value} (h:LR φ vs yk) (hs:vs.all AV.scalar=true):∀v∈yk,v.oneCell'=true:=by
 intro v hv
 obtain ⟨i,hi⟩:=List.getElem?_of_mem hv
 have hil:i<vs.length:=by rw[h.1];exact (List.getElem?_eq_some_iff.1 hi).1
 have:=h.2 i vs[i] v (by simp [hil]) hi
 exact this.scalar (List.all_eq_true.1 hs _ (List.getElem_mem hil))
theorem zG {φ:Ph} {h:az} {w:World} (ok:OK E φ h w) {i:Nat} {cs:List AV} {e:TypeId} (hg:h.get i=some (.cells cs e false)) {l:Loc} (hφ:φ i=some l)
 {vs:List AV} {yk:List Value} (hl:LR φ vs yk) (o:Nat) (hle:o+vs.length≤cs.length) (tj:vs.all AV.scalar=true):
 ∃w',(storeCells ⟨l.fB,l.off+o,none⟩ yk).run E.P w= .ok () w'∧OK E φ (h.put i (some (.cells (setFrom cs o vs) e false))) w'∧
  Fr φ h w φ (h.put i (some (.cells (setFrom cs o vs) e false))) w':=by
 obtain ⟨C,e',lo,hi,hb,hc⟩:=ok.cells hg hφ
 have NA:=hc.size
 have hlen:=hl.1
 have jP:=uj (P:=E.P) hb (l.off+o) yk (by omega) (fun k h1 h2=>hc.free rfl k (by omega) (by omega)) (Ba hl tj)
 refine ⟨_,jP,?_⟩
 obtain ⟨h1,h2,h3⟩:=yi yk w l.fB (l.off+o)
 refine ok.change hg rfl hφ ?_ (fun c gX=>nq yk (Ne.symm gX) _) (size_setCells _ _ _ _) h1 h2 h3
 refine ⟨nj C (l.off+o) yk,e',lo,hi,ui yk hb _,⟨?_,fun k x hk=>?_,fun _ k a b=>hc.free rfl k a (by rw[oX] at b;exact b),fun h=>by cases h⟩,fun _=>by have q:=hc.shape rfl;rw[oX,tK];exact q⟩
 · rw[oX,tK];exact NA
 · rw[j5] at hk
   rw[A8]
   split at hk
   · rename_i NM
     rw[if_pos (by omega)]
     obtain ⟨y,hy,hr⟩:=hl.get hk
     exact ⟨y,by rw[show l.off+k -(l.off+o)=k - o by omega];exact hy,hr⟩
   · rename_i NM
     have hkl:k<cs.length:=(List.getElem?_eq_some_iff.1 hk).1
     rw[if_neg (by omega)]
     exact hc.val k x hk
theorem TB {φ:Ph} {h h':az} {w:World} (ok:OK E φ h w) {t:TypeId} {av xv:AV} {a' x':Value} (ha:VR φ av a') (hx:VR φ xv x') (e:eS E h t av xv=some h'):
 ∃w',(Instr.storeAt t a' x').run E.P w= .ok () w'∧OK E φ h' w'∧Fr φ h w φ h' w':=by
 unfold eS at e
 split at e
 · rename_i i o
   cases ha with
   | @ptr _ l _ hφ=>
   split at e
   · rename_i cs el n hg hn
     split at e
     · rename_i hc
       simp at e;subst e
       obtain ⟨w',jP,qk,sv⟩:=zG ok hg hφ hx.cells o (by omega) hc.2.2
       refine ⟨w',?_,qk,sv⟩
       have hs:x'.cells.size=n:=by have:=hx.cells.1;simp at this;omega
       simp only[Instr.storeAt,Instr.sureAddr,Sem.run_bind,Sem.run_pure,Result.andThen_ok,storeVar,fZ hn,hs,ne_eq,not_true_eq_false,if_false,jP]
     · simp at e
   · simp at e
 · simp at e
theorem Iv {φ:Ph} {h:az} {w:World} (ok:OK E φ h w) {size n:Nat} {x:AV} {x':Value} (hx:VR φ x x') {new:List AV} (e:gJ h size n x=some new) (hn:sE x=some n∨True):
 ∃xP:List Value,LR φ new xP∧∀w',w'.heap=w.heap→(Builtin.firstCells size n x').run E.P w'= .ok xP.toArray w':=by
 unfold gJ at e
 split at e
 · split at e
   · rename_i h0
     simp at e;subst e
     cases hx
     exact ⟨[],LR.nil φ,fun w' _=>by simp [Builtin.firstCells]⟩
   · simp at e
 · split at e
   · rename_i h0
     simp at e;subst e
     cases hx
     exact ⟨[],LR.nil φ,fun w' _=>by subst h0;simp only[Builtin.firstCells,Nat.zero_mul];rfl⟩
   · simp at e
 · rename_i i o len _ _
   split at e
   · split at e
     · rename_i h0
       simp at e;subst e
       cases hx
       exact ⟨[],LR.nil φ,fun w' _=>by subst h0;simp only[Builtin.firstCells,Nat.zero_mul];rfl⟩
     · split at e
       · rename_i cs el ro hg
         split at e
         · rename_i hle
           simp at e;subst e
           cases hx with
           | @slice _ l _ _ _ _ hφ=>
           obtain ⟨C,e',lo,hi,hb,hc⟩:=ok.cells hg hφ
           obtain ⟨vs,hvl,Lc,F9⟩:=hc.range o (n*size) hle
           refine ⟨vs,F9,fun w' hw=>?_⟩
           rw[←hw] at hb
           have It:=rW (P:=E.P) hb (l.off+o) vs Lc
           rw[hvl] at It
           simp only[Builtin.firstCells,It]
         · simp at e
       · simp at e
   · simp at e
 · rename_i s
   split at e
   · rename_i Ax
     simp at e;subst e
     generalize Ty:AV.str s=s0 at hx
     cases hx<;>cases Ty
     rename_i s'
     refine ⟨(s'.data.toList.take n).map (fun b=>Value.int .u8 b.toNat),⟨by simp,fun i p q hp hq=>?_⟩,fun w' _=>?_⟩
     · rw[←List.map_take,List.getElem?_map] at hp
       rw[List.getElem?_map] at hq
       cases hb:(s'.data.toList.take n)[i]? with
       | none=>rw[hb] at hp;simp at hp
       | some b=>
        rw[hb] at hp hq
        simp at hp hq
        subst hp;subst hq
        exact .int _ _
     · simp only[Builtin.firstCells,Sem.run_pure]
       congr 1
       apply Array.ext'
       simp
   · simp at e
 · simp at e
end Go.Ab
namespace Go.Ab
variable {E:Env}
theorem OK.reuse {φ:Ph} {h h':az} {w w':World} (ok:OK E φ h w) {i:Nat} {o o':aN} {l l':Loc} (hg:h.get i=some o) (Qb:o.rw=true) (hl:φ i=some l) (hb:l'.fB=l.fB)
 (hn:(h.put i none).new o'=some h') (ho:OR E (φ.add h.nx l') o' l' w'.heap[l.fB]?) (yj:∀c,c≠l.fB→w'.heap[c]? =w.heap[c]?) (iR:w'.heap.size=w.heap.size)
 (hos:w'.os=w.os) (Qp:w'.tape=w.tape) (NC:w'.output=w.output):
 OK E (φ.add h.nx l') h' w'∧Fr φ h w (φ.add h.nx l') h' w':=by
 obtain ⟨pI,hnx,Im,hold⟩:=az.oW hn
 have hpn:(h.put i none).nx=h.nx:=rfl
 rw[hpn] at hnx Im hold
 have K5:φ h.nx=none:=by
  cases e:φ h.nx with
  | none=>rfl
  | some m=>exact absurd (ok.EF _ _ e) (Nat.lt_irrefl _)
 have hle:φ.le (φ.add h.nx l'):=fun j m hm=>by
  unfold Ph.add;split
  · rename_i e;subst e;rw[K5] at hm;simp at hm
  · exact hm
 have jU:∀j p,h'.get j=some p→(j=h.nx∧p=o')∨(j≠h.nx∧j≠i∧h.get j=some p):=fun j p hj=>by
  by_cases e:j=h.nx
  · subst e;rw[Im] at hj;simp at hj;exact .inl ⟨rfl,hj.symm⟩
  · rw[hold j e] at hj
    by_cases e':i=j
    · subst e';rw[az.cY] at hj;simp at hj
    · rw[az.bQ e'] at hj;exact .inr ⟨e,Ne.symm e',hj⟩
 have ny:∀j,j≠h.nx→(φ.add h.nx l') j=φ j:=fun j hj=>by simp [Ph.add,hj]
 have j6:(φ.add h.nx l') h.nx=some l':=by simp [Ph.add]
 refine ⟨⟨fun j m hm=>?_,?_,fun g hg=>hle _ _ (ok.yh g hg),fun j p m hj hm=>?_,fun j k p q m n hj hk hm xO hw hbb=>?_⟩,
  ⟨hle,fun j hj=>ny j (by omega),by omega,hos,Qp,NC,Nat.le_of_eq iR.symm,fun b _ hn'=>yj b (fun e=>hn' i o l hg Qb hl e.symm),fun j p m hj hr hm=>?_⟩⟩
 · rw[hnx]
   by_cases e:j=h.nx
   · omega
   · rw[ny j e] at hm;have:=ok.EF j m hm;omega
 · have:=ok.nx;omega
 · rcases jU j p hj with ⟨rfl,rfl⟩ | ⟨gX,ND,tu⟩
   · rw[j6] at hm;simp at hm;subst hm;exact hb▸ho
   · rw[ny j gX] at hm
     rw[yj _ (fun e=>ND (ok.inj j i p o m l tu hg hm hl (.inr Qb) e))]
     exact (ok.live j p m tu hm).mono hle
 · rcases jU j p hj with ⟨rfl,rfl⟩ | ⟨gX,hni,tu⟩<;>rcases jU k q hk with ⟨rfl,rfl⟩ | ⟨ND,aqU,La⟩
   · rfl
   · rw[j6] at hm;simp at hm;subst hm
     rw[ny k ND] at xO
     exact absurd (ok.inj k i q o n l La hg xO hl (.inr Qb) (hbb.symm.trans hb)) aqU
   · rw[j6] at xO;simp at xO;subst xO
     rw[ny j gX] at hm
     exact absurd (ok.inj j i p o m l tu hg hm hl (.inr Qb) (hbb.trans hb)) hni
   · rw[ny j gX] at hm;rw[ny k ND] at xO;exact ok.inj _ _ _ _ _ _ tu La hm xO hw hbb
 · rcases jU j p hj with ⟨rfl,rfl⟩ | ⟨gX,hni,tu⟩
   · rw[j6] at hm;simp at hm;subst hm;exact .inr ⟨i,o,l,hg,Qb,hl,hb.symm⟩
   · rw[ny j gX] at hm;exact .inr ⟨j,p,m,tu,hr,hm,rfl⟩
theorem Mf:∀(rounds c TC:Nat),c<TC→Builtin.growBy TC rounds c≤2*TC+1000
 | 0,c,n,h=>by simp [Builtin.growBy];omega
 | r+1,c,n,h=>by
  simp only[Builtin.growBy]
  split
  · omega
  · by_cases hc:c+(c+768) /4<n
    · exact Mf r _ n hc
    · cases r with
      | zero=>simp only[Builtin.growBy];omega
      | succ r=>simp only[Builtin.growBy];rw[if_pos (by omega)];omega
theorem nextslicecap_le {n c:Nat} (h:c<n):Builtin.nextslicecap n c≤4*n+4096:=by
 unfold Builtin.nextslicecap
 split
 · omega
 · split
   · omega
   · have:=Mf 4 c n h;omega
theorem sK (z:Array Value) (n:Nat):(Builtin.zeroCells z n).size=n*z.size:=by simp [Builtin.zeroCells]
theorem xe {P:Program} {w:World} {sT xT ty elem:TypeId} {xd:TypeDesc} (hs:P.underlying sT=some (.slice elem)) (hx:P.underlying xT=some xd) (hxd:∀k,xd≠ .int k)
 {size bytes n:Nat} (iR:(P.info? elem).map (·.size)=some size) (kr:(P.info? elem).map (·.bytes)=some bytes) {z:Value} (hz:∀w,(zeroValue elem).run P w= .ok z w) (hzs:z.cells.size=size)
 {base:Option Addr} {len cap:Nat} {x':Value} (hn:∀w,(Builtin.lenOf x').run P w= .ok n w) {old new:List Value} (hold:∀w',w'.heap=w.heap→(Builtin.firstCells size len (.slice base len cap)).run P w'= .ok old.toArray w')
 (Im:∀w',w'.heap=w.heap→(Builtin.firstCells size n x').run P w'= .ok new.toArray w') (pI:cap<len+n) (hsm:(4*(len+n)+4096)*(bytes+1)≤1099511627776) (hol:old.length=len*size) (hnl:new.length=n*size):
 ∃nc:Nat,∃C:Array Value,len+n≤nc∧(∃rest,C.toList=old++new++rest)∧C.size=nc*size∧
  (Builtin.append_ #[sT,xT] ty #[.slice base len cap,x']).run P w= .ok (.slice (some ⟨w.heap.size,0,none⟩) (len+n) nc) (w.drew.alloc (.cells C elem)):=by
 let nc:=(Question.appendCap (len+n) cap elem).cut (w.tape w.drawn (.appendCap (len+n) cap elem))
 have hnc:len+n≤nc:=by show len+n≤len+n+_;omega
 let C:Array Value:=old.toArray++new.toArray++Builtin.zeroCells z.cells (nc -(len+n))
 refine ⟨nc,C,hnc,⟨(Builtin.zeroCells z.cells (nc -(len+n))).toList,by simp [C]⟩,?_,?_⟩
 · simp only[C,Array.size_append,sK,hzs,List.size_toArray,hol,hnl]
   rw[←Nat.add_mul,←Nat.add_mul];congr 1;omega
 · obtain ⟨inf,Qw,hb⟩:=uV kr w
   obtain ⟨aqV,aaO,hb'⟩:=uV kr w.drew
   have hxm:(match xd with | .int _=>true | _=>false)=false:=by cases xd<;>first | rfl | exact absurd rfl (hxd _)
   have ajg:¬len+n≤cap:=by omega
   have ajh:=nextslicecap_le pI
   have hmul:(4*(len+n)+4096)*(bytes+1)=(4*(len+n)+4096)*bytes+(4*(len+n)+4096):=by rw[Nat.mul_add,Nat.mul_one]
   have TD:¬Builtin.nextslicecap (len+n) cap*bytes>2^48:=by
    have:Builtin.nextslicecap (len+n) cap*bytes≤(4*(len+n)+4096)*bytes:=Nat.mul_le_mul_right _ ajh
    omega
   have aji:IntKind.i64.max=9223372036854775807:=by decide
   have TE:¬(((len+n:Nat):Int) >IntKind.i64.max):=by rw[aji];omega
   have o1:=hold w.drew rfl
   have n1:=Im w.drew rfl
   have z1:=hz w.drew
   have hf:((!false)=true)=True:=by simp
   simp only[Builtin.append_,List.getElem?_toArray,List.getElem?_cons_zero,List.getElem?_cons_succ,Sem.run_bind,Sem.run_pure,Result.andThen_ok,run_underlying hs,run_underlying hx,fZ iR,Bool.false_eq_true,if_false,hn,ajg,Qw]
   rw[if_neg (fun h=>TE h.1)]
   simp only[Sem.run_bind,Qw,hb,Result.andThen_ok]
   rw[if_neg TD]
   simp only[Sem.run_bind,run_choose,Question.forced,Bool.false_eq_true,if_false,World.drew_eq,Result.andThen_ok,aaO,run_askRoom,o1,hf,if_true,n1,z1,newRow,run_newObj,World.alloc_eq,Sem.run_pure]
   rfl
theorem uY {P:Program} {w w':World} {sT xT ty elem:TypeId} {xd:TypeDesc} (hs:P.underlying sT=some (.slice elem)) (hx:P.underlying xT=some xd) (hxd:∀k,xd≠ .int k)
 {size n:Nat} (iR:(P.info? elem).map (·.size)=some size) {b O len cap:Nat} {x':Value} (hn:∀w,(Builtin.lenOf x').run P w= .ok n w) {new:List Value}
 (Im:(Builtin.firstCells size n x').run P w= .ok new.toArray w) (hle:len+n≤cap) (lN:(storeCells ⟨b,O+len*size,none⟩ new).run P w= .ok () w'):
 (Builtin.append_ #[sT,xT] ty #[.slice (some ⟨b,O,none⟩) len cap,x']).run P w= .ok (.slice (some ⟨b,O,none⟩) (len+n) cap) w':=by
 have hxm:(match xd with | .int _=>true | _=>false)=false:=by cases xd<;>first | rfl | exact absurd rfl (hxd _)
 have hf:((!false)=true)=True:=by simp
 simp only[Builtin.append_,List.getElem?_toArray,List.getElem?_cons_zero,List.getElem?_cons_succ,Sem.run_bind,Sem.run_pure,Result.andThen_ok,run_underlying hs,run_underlying hx,fZ iR,hf,Bool.false_eq_true,if_false,if_true,hn,hle,Im,zE,lN]
theorem Cs {φ:Ph} {h h':az} {w:World} (ok:OK E φ h w) {new:List AV} {elem:TypeId} (hn:h.new (.cells new elem false)=some h') {l:List Value} (hl:LR φ new l)
 {size nc n bytes:Nat} (iR:dm E elem=some size) (kr:jT E elem=some bytes) {C:Array Value} {rest:List Value} (hC:C.toList=l++rest) (hCs:C.size=nc*size) (hnc:n≤nc) (hll:l.length=n*size):
 TA E φ h w (.ok (.slice (some ⟨w.heap.size,0,none⟩) n nc) (w.drew.alloc (.cells C elem))) (.slice h.nx 0 n n true) h':=by
 have hnl:new.length=n*size:=by rw[hl.1,hll]
 obtain ⟨qk,sv,hle⟩:=ok.fresh (w':=w.drew.alloc (.cells C elem)) hn ⟨w.heap.size,0,nc - n⟩ (by
  refine ⟨C,elem,0,0,by rw[show (w.drew.alloc (.cells C elem)).heap=w.heap.push (.cells C elem) from rfl];simp,⟨?_,fun k x hk=>?_,fun _ k _ _=>by omega,fun _ _ _=>rfl⟩,fun _=>⟨rfl,rfl,fun _ _ z=>by rw[kr] at z;cases z⟩⟩
  · simp only[iJ,iR,Option.getD_some,hnl,hCs,Nat.zero_add]
    rw[←Nat.add_mul];exact Nat.mul_le_mul_right _ (by omega)
  · obtain ⟨y,hy,hr⟩:=hl.get hk
    have hkl:k<l.length:=(List.getElem?_eq_some_iff.1 hy).1
    refine ⟨y,?_,hr.mono (fun i m hm=>?_)⟩
    · have:C.toList[k]? =some y:=by rw[hC,List.getElem?_append_left hkl];exact hy
      simpa using this
    · unfold Ph.add
      split
      · rename_i e;subst e;exact absurd (ok.EF _ _ hm) (Nat.lt_irrefl _)
      · exact hm)
  (fun c gX hc=>by
   have:(w.drew.alloc (.cells C elem)).heap[c]? =w.heap[c]? :=by
    rw[show (w.drew.alloc (.cells C elem)).heap=w.heap.push (.cells C elem) from rfl,Array.getElem?_push,if_neg (by simpa using gX)]
   exact this) (by simp) (Nat.le_refl _) rfl rfl rfl
 refine ⟨_,_,_,rfl,?_,qk,sv⟩
 have:=VR.slice (φ:=φ.add h.nx ⟨w.heap.size,0,nc - n⟩) (i:=h.nx) (l:=⟨w.heap.size,0,nc - n⟩) 0 n n true (by simp [Ph.add])
 simp only[jQ,if_true] at this
 rw[show n+(nc - n)=nc by omega] at this
 exact this
theorem Fr.afC {φ φ':Ph} {h h':az} {w w':World} {i:Nat} (f:Fr φ (h.put i none) w φ' h' w'):Fr φ h w φ' h' w':=by
 have jU:∀j p,(h.put i none).get j=some p→h.get j=some p:=fun j p hj=>by
  by_cases e:i=j
  · subst e;rw[az.cY] at hj;simp at hj
  · rw[az.bQ e] at hj;exact hj
 exact ⟨f.ext,f.old,f.nx,f.os,f.tape,f.output,f.size,fun b hb hn=>f.G7 b hb (fun j p m hj=>hn j p m (jU j p hj)),
  fun j p m hj hr hm=>(f.own j p m hj hr hm).imp id (fun ⟨k,q,n,a,b⟩=>⟨k,q,n,jU k q a,b⟩)⟩
theorem sL {φ:Ph} {x:AV} {n:Nat} (h:sE x=some n) {x':Value} (hx:VR φ x x') (P:Program) (w:World):(Builtin.lenOf x').run P w= .ok n w:=by
 cases x<;>simp [sE] at h
 · subst h
   generalize Ty:AV.str _=s0 at hx
   cases hx<;>cases Ty
   rfl
 · cases hx;subst h;rfl
 · cases hx;subst h;rfl
 · cases hx;subst h;rfl
theorem G9 {P:Program} {w:World} {sT xT ty elem:TypeId} {kx:IntKind} (hs:P.underlying sT=some (.slice elem)) (hx:P.underlying xT=some (.int kx))
 {size bytes:Nat} (iR:(P.info? elem).map (·.size)=some size) (kr:(P.info? elem).map (·.bytes)=some bytes) {z:Value} (hz:∀w,(zeroValue elem).run P w= .ok z w) (hzs:z.cells.size=size)
 {k:IntKind} {n:Int} (hn:0<n) (TF:0<size) (hsm:(4*n.toNat+4096)*(bytes+1)≤1099511627776):
 ∃nc:Nat,∃C:Array Value,n.toNat≤nc∧(∃rest,C.toList=(Builtin.zeroCells z.cells n.toNat).toList++rest)∧C.size=nc*size∧
  (Builtin.append_ #[sT,xT] ty #[.slice none 0 0,.int k n]).run P w= .ok (.slice (some ⟨w.heap.size,0,none⟩) n.toNat nc) (w.drew.alloc (.cells C elem)):=by
 let nc:=(Question.appendCap (0+n.toNat) 0 elem).cut (w.tape w.drawn (.appendCap (0+n.toNat) 0 elem))
 have hnc:n.toNat≤nc:=by show n.toNat≤0+n.toNat+_;omega
 let C:Array Value:= #[]++Builtin.zeroCells z.cells n.toNat++Builtin.zeroCells z.cells (nc -(0+n.toNat))
 refine ⟨nc,C,hnc,⟨(Builtin.zeroCells z.cells (nc -(0+n.toNat))).toList,by simp [C]⟩,?_,?_⟩
 · simp only[C,Array.size_append,sK,hzs,Array.size_empty,Nat.zero_add]
   rw[←Nat.add_mul];congr 1;omega
 · obtain ⟨inf,Qw,hb⟩:=uV kr w
   obtain ⟨aqV,aaO,hb'⟩:=uV kr w.drew
   have hmul:(4*n.toNat+4096)*(bytes+1)=(4*n.toNat+4096)*bytes+(4*n.toNat+4096):=by rw[Nat.mul_add,Nat.mul_one]
   have hnl:n.toNat≤1099511627776:=by omega
   have amV:IntKind.i64.wrap n=n:=by
    rw[IntKind.wrap_i64];omega
   have aqW:¬n<0:=by omega
   have K6:n*(bytes:Int)=((n.toNat*bytes:Nat):Int):=by rw[Int.natCast_mul,Int.toNat_of_nonneg (by omega)]
   have hle:n.toNat*bytes≤(4*n.toNat+4096)*bytes:=Nat.mul_le_mul_right _ (by omega)
   have amW:¬n*(bytes:Int) >2^48:=by rw[K6];omega
   have ajg:¬0+n.toNat≤0:=by omega
   have ajh:=nextslicecap_le (show 0<0+n.toNat by omega)
   have TD:¬Builtin.nextslicecap (0+n.toNat) 0*bytes>2^48:=by
    have:Builtin.nextslicecap (0+n.toNat) 0*bytes≤(4*(0+n.toNat)+4096)*bytes:=Nat.mul_le_mul_right _ ajh
    rw[Nat.zero_add] at this
    rw[Nat.zero_add]
    omega
   have aji:IntKind.i64.max=9223372036854775807:=by decide
   have TE:¬(((0+n.toNat:Nat):Int) >IntKind.i64.max):=by rw[aji];omega
   have hns:¬n.toNat*size=0:=by
    have h1:0<n.toNat:=by omega
    have:=Nat.mul_pos h1 TF;omega
   have z1:=hz w.drew
   have hf:((!true)=true)=False:=by simp
   have hai:∀w,(asInt (.int k n)).run P w= .ok n w:=fun _=>rfl
   simp only[Builtin.append_,List.getElem?_toArray,List.getElem?_cons_zero,List.getElem?_cons_succ,Sem.run_bind,Sem.run_pure,Result.andThen_ok,run_underlying hs,run_underlying hx,fZ iR,if_true,hai,amV]
   rw[if_neg aqW]
   simp only[Sem.run_bind,Qw,hb,Result.andThen_ok]
   rw[if_neg amW]
   simp only[Sem.run_bind,Sem.run_pure,Result.andThen_ok]
   rw[if_neg ajg]
   simp only[Sem.run_bind,Result.andThen_ok,Qw,hb]
   rw[if_neg (fun h=>TE h.1)]
   simp only[Sem.run_bind,Qw,hb,Result.andThen_ok]
   rw[if_neg TD]
   simp only[Sem.run_bind,run_choose,Question.forced,Bool.false_eq_true,if_false,World.drew_eq,Result.andThen_ok,aaO,run_askRoom,Builtin.firstCells,hf,if_neg hns,z1,newRow,run_newObj,World.alloc_eq,Sem.run_pure]
   simp only[nc,C,Nat.zero_add]
   rfl
theorem Qx {φ:Ph} {h h':az} {w:World} (ok:OK E φ h w) {argTypes:Array TypeId} {s x v:AV} (e:cb E h argTypes s x=some (v,h')) {s' x':Value} (hs:VR φ s s') (hx:VR φ x x') (ty:TypeId):
 TA E φ h w ((Builtin.append_ argTypes ty #[s',x']).run E.P w) v h':=by
 unfold cb at e
 split at e
 · rename_i sT xT hsT hxT
   split at e
   · rename_i elem xd hus hux
     split at e
     · rename_i hint
       cases xd<;>simp [sG] at hint
       have key:(Builtin.append_ argTypes ty #[s',x']).run E.P w=(Builtin.append_ #[sT,xT] ty #[s',x']).run E.P w:=by
        unfold Builtin.append_;simp only[hsT,hxT];rfl
       rw[key]
       unfold F6 at e
       split at e
       · rename_i k0 k size bytes z iR kr hzero
         split at e
         · rename_i hc
           obtain ⟨hk,TF,hsm,hzl⟩:=hc
           split at e
           · rename_i h1 Ge
             simp at e;obtain ⟨rfl,rfl⟩:=e
             cases hs;cases hx
             obtain ⟨z',Er,mj⟩:=kQ hzero
             have hzs:z'.cells.size=size:=by have:=(Er φ).cells.1;simp at this;omega
             obtain ⟨nc,C,hnc,⟨rest,hC⟩,hCs,jP⟩:=G9 (P:=E.P) (w:=w) (ty:=ty) (k:=k0) hus hux iR (zD _ kr) mj hzs hk TF hsm
             rw[jP]
             exact Cs (n:=k.toNat) ok Ge (l:=(Builtin.zeroCells z'.cells k.toNat).toList) (Tz (Er φ).cells k.toNat) iR kr hC hCs hnc (by rw[Array.length_toList,sK,hzs])
           · simp at e
         · simp at e
       · simp at e
     rename_i amX
     have hxd:∀k,xd≠ .int k:=fun k he=>by subst he;simp [sG] at amX
     split at e
     · rename_i size bytes n iR kr hlen
       split at e
       · rename_i new z TG hzero
         split at e
         · rename_i hc
           obtain ⟨hzl,tj,ah9⟩:=hc
           obtain ⟨z',Er,mj⟩:=kQ hzero
           have hzs:z'.cells.size=size:=by have:=(Er φ).cells.1;simp at this;omega
           obtain ⟨xP,Ld,Ct⟩:=Iv ok hx TG (.inr trivial)
           have hnl:xP.length=n*size:=by rw[←Ld.1];exact ah9
           have key:(Builtin.append_ argTypes ty #[s',x']).run E.P w=(Builtin.append_ #[sT,xT] ty #[s',x']).run E.P w:=by
            unfold Builtin.append_;simp only[hsT,hxT];rfl
           rw[key]
           split at e
           ·
            cases hs
            split at e
            · rename_i Qd
              simp at e;obtain ⟨rfl,rfl⟩:=e
              subst Qd
              refine ⟨φ,w,_,?_,.aw,ok,Fr.refl φ h w⟩
              have hxm:(match xd with | .int _=>true | _=>false)=false:=by cases xd<;>first | rfl | exact absurd rfl (hxd _)
              have hf:((!false)=true)=True:=by simp
              have hn1:=Ct w rfl
              simp only[Builtin.append_,List.getElem?_toArray,List.getElem?_cons_zero,List.getElem?_cons_succ,Sem.run_bind,Sem.run_pure,Result.andThen_ok,run_underlying hus,run_underlying hux,fZ iR,hf,Bool.false_eq_true,if_false,if_true,sL hlen hx,hn1,Nat.le_refl,Nat.add_zero]
            · rename_i Qd
              split at e
              · rename_i hsm
                split at e
                · rename_i h1 Ge
                  simp at e;obtain ⟨rfl,rfl⟩:=e
                  obtain ⟨nc,C,hnc,⟨rest,hC⟩,hCs,jP⟩:=xe (P:=E.P) (w:=w) (ty:=ty) hus hux hxd iR (zD _ kr) mj hzs (base:=none) (len:=0) (cap:=0) (fun w=>sL hlen hx E.P w) (old:=[]) (fun w' _=>by simp [Builtin.firstCells]) (fun w' hw=>Ct w' hw) (by omega) (by simpa using hsm) (by simp) hnl
                  have:=Cs (n:=n) ok Ge (l:=[]++xP) (by simpa using Ld) (by simpa using iR) kr (by simpa using hC) hCs (by omega) (by simp [hnl])
                  rw[jP]
                  simp only[Nat.zero_add] at this ⊢
                  exact this
                · simp at e
              · simp at e
           · rename_i i o len cap op
             cases hs with
             | @slice _ l _ _ _ _ hφ=>
             split at e
             · rename_i cs el hg
               split at e
               ·
                rename_i amY
                split at e
                · rename_i hle
                  simp at e;obtain ⟨rfl,rfl⟩:=e
                  have hcc:cap≤jQ op cap l.lr:=by unfold jQ;split<;>omega
                  obtain ⟨w',lN,qk,sv⟩:=zG ok hg hφ Ld (o+len*size) (by rw[ah9,Nat.add_assoc,←Nat.add_mul];exact hle) tj
                  refine ⟨φ,w',_,uY (P:=E.P) hus hux hxd iR (fun w=>sL hlen hx E.P w) (Ct w rfl) (by omega) (by rw[Nat.add_assoc];exact lN),?_,qk,sv⟩
                  have:=VR.slice (φ:=φ) o (len+n) cap op hφ
                  exact this
                · simp at e
               · rename_i amY
                 split at e
                 · rename_i Tw
                   obtain ⟨hsm,hol,uU⟩:=Tw
                   split at e
                   · rename_i h1 Ge
                     simp at e;obtain ⟨rfl,rfl⟩:=e
                     obtain ⟨C0,e0,lo,hi,hb0,hc0⟩:=ok.cells hg hφ
                     obtain ⟨afD,Qy,amZ,TH⟩:=hc0.range o (len*size) hol
                     have afE:∀cp w',w'.heap=w.heap→(Builtin.firstCells size len (.slice (some ⟨l.fB,l.off+o,none⟩) len cp)).run E.P w'= .ok afD.toArray w':=fun cp w' hw=>by
                      rw[←hw] at hb0
                      have It:=rW (P:=E.P) hb0 (l.off+o) afD amZ
                      rw[Qy] at It
                      simp only[Builtin.firstCells,It]
                     by_cases NM:len+n≤jQ op cap l.lr
                     ·
                      have aqX:op=true:=by
                       cases op with
                       | true=>rfl
                       | false=>simp [jQ] at NM;omega
                      subst aqX
                      obtain ⟨rfl,amT,ho0⟩:=uU rfl
                      simp only[jQ,if_true] at NM ⊢
                      simp only[if_true] at Ge
                      have NA:=hc0.size
                      simp only[iJ,iR,Option.getD_some] at NA
                      have hmul:(len+n)*size≤(cap+l.lr)*size:=Nat.mul_le_mul_right _ NM
                      have e1:(len+n)*size=len*size+n*size:=Nat.add_mul _ _ _
                      have e2:(cap+l.lr)*size=cap*size+l.lr*size:=Nat.add_mul _ _ _
                      have lN:=uj (P:=E.P) hb0 (l.off+o+len*size) xP (by omega) (fun k k1 k2=>hc0.free rfl k (by omega) (by simp only[iJ,iR,Option.getD_some];omega)) (Ba Ld tj)
                      obtain ⟨p1,p2,p3⟩:=yi xP w l.fB (l.off+o+len*size)
                      obtain ⟨qk,sv⟩:=ok.reuse (w':=w.setCells l.fB (l.off+o+len*size) xP) (l':=⟨l.fB,l.off+o,cap+l.lr -(len+n)⟩) hg rfl hφ rfl Ge (by
                       refine ⟨nj C0 (l.off+o+len*size) xP,e0,lo,hi,ui xP hb0 _,⟨?_,fun k x hk=>?_,fun _ k a b=>hc0.free rfl k (by simp at a;omega) ?_,fun h=>by cases h⟩,fun _=>⟨(hc0.shape rfl).1,by show l.off+o=0;have:=(hc0.shape rfl).2.1;omega,fun _ _ z=>by rw[kr] at z;cases z⟩⟩
                       · simp only[iJ,iR,Option.getD_some,tK,List.length_append,TH.1,Qy,Ld.1,hnl]
                         rw[Nat.sub_mul];omega
                       · show ∃y,(nj C0 (l.off+o+len*size) xP)[l.off+o+k]? =some y∧_
                         rw[A8]
                         by_cases hk1:k<len*size
                         · rw[List.getElem?_append_left (by rw[TH.1,Qy];exact hk1)] at hk
                           obtain ⟨y,hy,hr⟩:=TH.get hk
                           rw[if_neg (by omega)]
                           exact ⟨y,amZ k y hy,hr.mono (fun j m hm=>by
                            unfold Ph.add
                            split
                            · rename_i ej;subst ej;exact absurd (ok.EF _ _ hm) (Nat.lt_irrefl _)
                            · exact hm)⟩
                         · rw[List.getElem?_append_right (by rw[TH.1,Qy];omega)] at hk
                           obtain ⟨y,hy,hr⟩:=Ld.get hk
                           have hyl:k -((List.take (len*size) (List.drop o cs)).length)<xP.length:=(List.getElem?_eq_some_iff.1 hy).1
                           rw[TH.1,Qy] at hyl hy
                           rw[if_pos (by omega)]
                           exact ⟨y,by rw[show l.off+o+k -(l.off+o+len*size)=k - len*size by omega];exact hy,hr.mono (fun j m hm=>by
                            unfold Ph.add
                            split
                            · rename_i ej;subst ej;exact absurd (ok.EF _ _ hm) (Nat.lt_irrefl _)
                            · exact hm)⟩
                       · simp only[iJ,iR,Option.getD_some,List.length_append,TH.1,Qy,Ld.1,hnl] at b ⊢
                         rw[Nat.sub_mul] at b;omega)
                       (fun c gX=>nq xP (Ne.symm gX) _) (size_setCells _ _ _ _) p1 p2 p3
                      refine ⟨_,_,_,uY (P:=E.P) hus hux hxd iR (fun w=>sL hlen hx E.P w) (Ct w rfl) NM lN,?_,qk,sv⟩
                      have:=VR.slice (φ:=φ.add h.nx ⟨l.fB,l.off+o,cap+l.lr -(len+n)⟩) (i:=h.nx) (l:=⟨l.fB,l.off+o,cap+l.lr -(len+n)⟩) 0 (len+n) (len+n) true (by simp [Ph.add])
                      simp only[jQ,if_true] at this
                      rw[show len+n+(cap+l.lr -(len+n))=cap+l.lr by omega] at this
                      exact this
                     ·
                      obtain ⟨nc,C,hnc,⟨rest,hC⟩,hCs,jP⟩:=xe (P:=E.P) (w:=w) (ty:=ty) hus hux hxd iR (zD _ kr) mj hzs (base:=some ⟨l.fB,l.off+o,none⟩) (len:=len) (cap:=jQ op cap l.lr) (fun w=>sL hlen hx E.P w) (old:=afD) (fun w' hw=>afE _ w' hw) (fun w' hw=>Ct w' hw) (by omega) hsm Qy hnl
                      rw[jP]
                      have F9:=TH.append Ld
                      have hll:(afD++xP).length=(len+n)*size:=by rw[List.length_append,Qy,hnl,Nat.add_mul]
                      cases op with
                      | false=>exact Cs ok Ge F9 iR kr hC hCs hnc hll
                      | true=>
                       obtain ⟨φ',w',v',a1,a2,a3,a4⟩:=Cs ok.kill Ge F9 iR kr hC hCs hnc hll
                       exact ⟨φ',w',v',a1,a2,a3,a4.afC⟩
                   · simp at e
                 · simp at e
             · simp at e
           · simp at e
         · simp at e
       · simp at e
     · simp at e
   · simp at e
 · simp at e
end Go.Ab
end
section
namespace Go.Ab
variable {E:Env}
theorem Yi {φ:Ph} {h h':az} {w:World} (ok:OK E φ h w) {argTypes:Array TypeId} {s d v:AV} (e:L7 E h argTypes d s=some (v,h')) {s' d':Value} (hd:VR φ d d') (hs:VR φ s s') (ty:TypeId):
 TA E φ h w ((Builtin.copy_ argTypes ty #[d',s']).run E.P w) v h':=by
 unfold L7 at e
 split at e
 · rename_i dT hdT
   split at e
   · rename_i elem m hu hm
     split at e
     · rename_i size iR
       simp at e;obtain ⟨rfl,rfl⟩:=e
       cases hd
       refine ⟨φ,w,_,?_,.int .i64 0,ok,Fr.refl φ h w⟩
       have h0:Nat.min m 0=0:=Nat.min_eq_right (Nat.zero_le _)
       obtain ⟨xP,_,Ct⟩:∃xP:List Value,True∧(Builtin.firstCells size 0 s').run E.P w= .ok xP.toArray w:=by
        cases s<;>simp [sE] at hm
        · generalize Ty:AV.str _=s0 at hs
          cases hs<;>cases Ty
          refine ⟨[],trivial,?_⟩
          simp [Builtin.firstCells]
        · cases hs;exact ⟨[],trivial,by simp [Builtin.firstCells]⟩
        · cases hs;exact ⟨[],trivial,by simp [Builtin.firstCells,loadCells,loadCellsFrom]⟩
        · cases hs;exact ⟨[],trivial,by simp [Builtin.firstCells,loadCells,loadCellsFrom]⟩
       simp only[Builtin.copy_,hdT,List.getElem?_toArray,List.getElem?_cons_zero,List.getElem?_cons_succ,Sem.run_bind,Result.andThen_ok,run_underlying hu,sL hm hs,h0,fZ iR,Ct,Sem.run_pure]
       rfl
     · rename_i size i o len _ _ iR
       split at e
       · rename_i new cs el TG hg
         split at e
         · rename_i hc
           simp at e;obtain ⟨rfl,rfl⟩:=e
           cases hd with
           | @slice _ l _ _ _ _ hφ=>
           obtain ⟨xP,Ld,Ct⟩:=Iv ok hs TG (.inr trivial)
           obtain ⟨w',lN,qk,sv⟩:=zG ok hg hφ Ld o hc.1 hc.2
           refine ⟨φ,w',_,?_,.int .i64 _,qk,sv⟩
           have h0:Nat.min m len=min m len:=rfl
           simp only[Builtin.copy_,hdT,List.getElem?_toArray,List.getElem?_cons_zero,List.getElem?_cons_succ,Sem.run_bind,Result.andThen_ok,run_underlying hu,sL hm hs,h0,fZ iR,Ct w rfl,lN,Sem.run_pure]
           rfl
         · simp at e
       · simp at e
     · simp at e
   · simp at e
 · simp at e
theorem Qz {w:World} {b n:Nat} {C:Array Value} {e:TypeId} (h:w.heap[b]? =some (.cells C e)):(w.freeze ⟨b,n,none⟩ 1).heap[b]? =some (.cells C e (n,n+1)):=by
 simp [World.freeze,Array.getElem?_modify,h]
theorem NP {w:World} {b c n:Nat} (h:b≠c):(w.freeze ⟨b,n,none⟩ 1).heap[c]? =w.heap[c]? :=by
 simp [World.freeze,Array.getElem?_modify,h]
theorem QA (w:World) (b n:Nat):(w.freeze ⟨b,n,none⟩ 1).heap.size=w.heap.size:=by simp [World.freeze]
theorem Yj {φ:Ph} {h h':az} {w:World} (ok:OK E φ h w) {src dst:TypeId} {x:AV} {v:AV} (e:Ql E h src dst (some x)=some (v,h')) {x':Value} (hx:VR φ x x'):
 TA E φ h w ((convert src dst x').run E.P w) v h':=by
 unfold Ql at e
 split at e
 · rename_i el s hs hd HK
   simp at HK;subst HK
   generalize Ty:AV.str s=s0 at hx
   cases hx<;>cases Ty
   rename_i s'
   split at e
   · rename_i h1 he hn
     split at e
     · rename_i NA
       simp at e;obtain ⟨rfl,rfl⟩:=e
       have e1:s'.size=s'.data.toList.length:=by cases s';rfl
       let nc:=(Question.appendCap s'.size 0 el).cut (w.tape w.drawn (.appendCap s'.size 0 el))
       have hnc:s'.size≤nc:=by show s'.size≤s'.size+_;omega
       let C:Array Value:=(s'.data.map fun b=>Value.int .u8 b.toNat)++Array.replicate (nc - s'.size) (.int .u8 0)
       have hCs:C.size=nc:=by
        have e0:s'.size=s'.data.size:=rfl
        have:C.size=s'.data.size+(nc - s'.size):=by simp only[C,Array.size_append,Array.size_map,Array.size_replicate]
        omega
       have NQ:(w.drew.alloc (.cells C el)).heap=w.heap.push (.cells C el):=rfl
       have am0:(w.drew.alloc (.cells C el)).heap[w.heap.size]? =some (.cells C el):=by rw[NQ];simp
       obtain ⟨qk,sv,hle⟩:=ok.fresh (w':=(w.drew.alloc (.cells C el)).freeze ⟨w.heap.size,nc,none⟩ 1) hn ⟨w.heap.size,0,nc - s'.size⟩ (by
        refine ⟨C,el,nc,nc+1,Qz am0,⟨?_,fun k x hk=>?_,fun _ k _ b=>?_,fun _ _ _=>rfl⟩,fun _=>⟨rfl,rfl,fun fs z=>by rw[he] at z;cases z⟩⟩
        · simp only[iJ,NA,Option.getD_some,hCs,List.length_map];rw[←e1];omega
        · rw[List.getElem?_map] at hk
          cases hb:s'.data.toList[k]? with
          | none=>rw[hb] at hk;simp at hk
          | some b=>
           rw[hb] at hk;simp at hk;subst hk
           have hkl:k<s'.data.toList.length:=(List.getElem?_eq_some_iff.1 hb).1
           refine ⟨.int .u8 b.toNat,?_,.int _ _⟩
           have:C[0+k]? =(s'.data.map fun b=>Value.int .u8 b.toNat)[k]? :=by
            simp only[C,Nat.zero_add];rw[Array.getElem?_append_left (by simpa using hkl)]
           show C[0+k]? =_
           rw[this]
           rw[Array.getElem?_map]
           have hb':s'.data[k]? =some b:=by simpa using hb
           rw[hb'];rfl
        · simp only[iJ,NA,Option.getD_some,List.length_map] at b;rw[←e1] at b;omega)
        (fun c gX hc=>by
         rw[NP (Ne.symm gX),NQ,Array.getElem?_push,if_neg (by omega)]) (by rw[QA,NQ];simp) (Nat.le_refl _) rfl rfl rfl
       refine ⟨_,_,.slice (some ⟨w.heap.size,0,none⟩) s'.size nc,?_,?_,qk,sv⟩
       · have hsh:(w.drew.alloc (.cells C el)).shape? w.heap.size=some (el,nc):=by
          simp only[World.shape?,am0,hCs]
         simp only[convert,Sem.run_bind,run_underlying hs,run_underlying hd,Result.andThen_ok,run_underlying he,Conv.stringToBytes,run_choose,Question.forced,Bool.false_eq_true,if_false,World.drew_eq,newRow,run_newObj,World.alloc_eq,Sem.run_pure,markStringish]
         rw[show (Question.appendCap s'.size 0 el).cut (w.tape w.drawn (Question.appendCap s'.size 0 el))=nc from rfl,show (Array.map (fun b=>Value.int .u8 b.toNat) s'.data++Array.replicate (nc - s'.size) (Value.int .u8 0))=C from rfl]
         simp only[World.size_drew,run_shape,hsh,Result.andThen_ok,run_freeze]
       · have:=VR.slice (φ:=φ.add h.nx ⟨w.heap.size,0,nc - s'.size⟩) (i:=h.nx) (l:=⟨w.heap.size,0,nc - s'.size⟩) 0 s'.size s'.size true (by simp [Ph.add])
         simp only[jQ,if_true] at this
         rw[show s'.size+(nc - s'.size)=nc by omega] at this
         exact this
     · simp at e
   · simp at e
 · simp at e
theorem v8 {φ:Ph} {v:AV} {v':Value} (hv:VR φ v v') {k':Value}:∀{es:List kO} {jO:List MapEntry} (_:Qo φ es jO) (i:Nat) (_:∀e,es[i]? =some e→VR φ e.key k'),
 Qo φ (fK es i v) (jO.modify i fun e=>{e with key:=k',val:=v'})
 | [],jO,h,i,_=>by
  cases jO with
  | nil=>simpa [fK] using h
  | cons _ _=>simp [Qo] at h
 | e::es,jO,h,i,hk=>by
  obtain ⟨hl,Lc⟩:=h
  cases jO with
  | nil=>simp at hl
  | cons y ys=>
   have h0:=Lc 0 e y (by simp) (by simp)
   have sJ:Qo φ es ys:=⟨by simpa using hl,fun i a b p q=>Lc (i+1) a b (by simpa using p) (by simpa using q)⟩
   cases i with
   | zero=>
    simp only[fK,List.modify_zero_cons]
    refine ⟨by simpa using hl,fun j a b p q=>?_⟩
    cases j with
    | zero=>simp at p q;subst p;subst q;exact ⟨hk e (by simp),hv,h0.born⟩
    | succ j=>simp at p q;exact sJ.2 j a b p q
   | succ i=>
    simp only[fK,List.modify_succ_cons]
    obtain ⟨g1,g2⟩:=v8 hv sJ i (fun e he=>hk e (by simpa using he))
    refine ⟨by simp [g1],fun j a b p q=>?_⟩
    cases j with
    | zero=>simp at p q;subst p;subst q;exact h0
    | succ j=>simp at p;exact g2 j a b p (by simpa using q)
theorem afF (s:ByteArray):(s==s)=true:=by cases s;rename_i d;show (d==d)=true;simp
theorem NR {φ:Ph} {k j:AV} (e:L5 k j=some true) {k' j':Value} (h:VR φ k k') (h':VR φ j j'):Instr.sameBits 10000 j' k'=true∧j'=k':=by
 unfold L5 at e
 split at e
 · generalize hs:AV.str _=s at h
   generalize uT:AV.str _=s' at h'
   cases h<;>cases hs
   cases h'<;>cases uT
   rename_i s s'
   simp at e
   have:s'=s:=by cases s;cases s';simp_all
   subst this
   exact ⟨by simp only[Instr.sameBits];exact afF _,rfl⟩
 · cases h;cases h'
   split at e
   · rename_i Es
     simp at e;subst e;subst Es
     exact ⟨by simp [Instr.sameBits],rfl⟩
   · simp at e
 · cases h;cases h'
   simp at e;subst e
   exact ⟨by simp [Instr.sameBits],rfl⟩
 · simp at e
theorem ym {φ:Ph} {h h':az} {w:World} (ok:OK E φ h w) {t:TypeId} {m k v:AV} {m' k' v':Value} (hm:VR φ m m') (hk:VR φ k k') (hv:VR φ v v') (e:sH E h t m k v=some h'):
 ∃w',(Instr.mapUpdate t m' k' v').run E.P w= .ok () w'∧OK E φ h' w'∧Fr φ h w φ h' w':=by
 unfold sH at e
 split at e
 · rename_i key elem i hu
   cases hm with
   | @map _ l hφ=>
   split at e
   · rename_i es clock hg
     split at e
     · rename_i Es
       have NL:∃d,E.P.underlying key=some d∧l6 (some d) k=true:=by
        cases hd:E.P.underlying key with
        | none=>rw[hd] at Es;simp [l6] at Es
        | some d=>rw[hd] at Es;exact ⟨d,rfl,Es⟩
       obtain ⟨d,hd,EL⟩:=NL
       have HJ:=ok.live i _ l hg hφ
       obtain ⟨Qe,jO,hb,jV⟩:=HJ
       have Ga:(getObj l.fB).run E.P w= .ok (.map jO clock) w:=by simp [getObj,Sem.run,hb]
       have Tb:=v7 (P:=E.P) hd EL hk false 9999 w
       have uZ:∀o':Obj,(setObj l.fB o').run E.P w= .ok () {w with heap:=w.heap.setIfInBounds l.fB o'}:=fun o'=>by simp [setObj,Sem.run,hb]
       have hch:∀(o:aN) (o':Obj),OR E φ o l (some o')→o.rw=true→OK E φ (h.put i (some o)) {w with heap:=w.heap.setIfInBounds l.fB o'}∧Fr φ h w φ (h.put i (some o)) {w with heap:=w.heap.setIfInBounds l.fB o'}:=fun o o' ho Qb=>by
        have pI:l.fB<w.heap.size:=by
         rcases Nat.lt_or_ge l.fB w.heap.size with a | a
         · exact a
         · rw[Array.getElem?_eq_none a] at hb;simp at hb
        exact ok.change hg rfl hφ (by simp [pI];exact ho) (fun c gX=>by simp [Ne.symm gX]) (by simp) rfl rfl rfl
       split at e
       · rename_i j v0 hf
         obtain ⟨r',h1,h2⟩:=uX EL hk jV hf
         cases r' with
         | none=>exact h2.elim
         | some q=>
         obtain ⟨j',v1⟩:=q
         obtain ⟨rfl,Lc,_,ent,A_,QB⟩:=h2
         simp at e;subst e
         obtain ⟨y,hy⟩:∃y,jO.toList[j]? =some y:=by
          have pI:j<es.length:=by simpa using (List.getElem?_eq_some_iff.1 A_).1
          exact ⟨jO.toList[j]'(by rw[←jV.1];exact pI),by simp⟩
         have hey:=jV.2 j ent y (by simpa using A_) hy
         obtain ⟨hsb,aaP⟩:=NR QB hk hey.key
         have hy':jO[j]? =some y:=by simpa using hy
         obtain ⟨qk,sv⟩:=hch (.map (fK es j v) clock) (.map (jO.modify j fun e=>{e with key:=k',val:=v'}) clock) ⟨Qe,_,rfl,by
          have:=v8 hv jV j (k':=k') (fun e he=>by
           have:e=ent:=by
            have h3:es[j]? =some ent:=by simpa using A_
            rw[h3] at he;simp at he;exact he.symm
           subst this;rw[←aaP];exact hey.key)
          simpa using this⟩ rfl
         refine ⟨_,?_,qk,sv⟩
         simp only[Instr.mapUpdate,Sem.run_bind,run_underlying hu,Result.andThen_ok,Ga,Tb,Instr.findKey,run_underlying hd,h1,Sem.run_pure,hy',Option.map_some,Option.getD_some,Instr.keyThatStays,hsb,if_true,uZ _]
       · rename_i hf
         obtain ⟨r',h1,h2⟩:=uX EL hk jV hf
         cases r' with
         | some q=>exact h2.elim
         | none=>
         simp at e;subst e
         obtain ⟨qk,sv⟩:=hch (.map (es++[{key:=k,val:=v,born:=clock}]) (clock+1)) (.map (jO.push {key:=k',val:=v',born:=clock}) (clock+1)) ⟨Qe,_,rfl,by
          refine ⟨by simp [jV.1],fun j a b p q=>?_⟩
          rw[Array.toList_push] at q
          by_cases hj:j<es.length
          · rw[List.getElem?_append_left hj] at p
            rw[List.getElem?_append_left (by rw[←jV.1];exact hj)] at q
            exact jV.2 j a b p q
          · rw[List.getElem?_append_right (by omega)] at p
            rw[List.getElem?_append_right (by rw[←jV.1];omega),←jV.1] at q
            cases hjj:j - es.length with
            | zero=>rw[hjj] at p q;simp at p q;subst p;subst q;exact ⟨hk,hv,rfl⟩
            | succ n=>rw[hjj] at p;simp at p⟩ rfl
         refine ⟨_,?_,qk,sv⟩
         simp only[Instr.mapUpdate,Sem.run_bind,run_underlying hu,Result.andThen_ok,Ga,Tb,Instr.findKey,run_underlying hd,h1,Sem.run_pure,uZ _]
       · simp at e
     · split at e
       · rename_i Es
         have NL:∃d,E.P.underlying key=some d∧mI E (some d) k=true:=by
          cases hd:E.P.underlying key with
          | none=>rw[hd] at Es;simp [mI] at Es
          | some d=>rw[hd] at Es;exact ⟨d,rfl,Es⟩
         obtain ⟨d,hd,EL⟩:=NL
         have HJ:=ok.live i _ l hg hφ
         obtain ⟨Qe,jO,hb,jV⟩:=HJ
         have Ga:(getObj l.fB).run E.P w= .ok (.map jO clock) w:=by simp [getObj,Sem.run,hb]
         have Tb:=tM hd EL hk false 9998 w
         have uZ:∀o':Obj,(setObj l.fB o').run E.P w= .ok () {w with heap:=w.heap.setIfInBounds l.fB o'}:=fun o'=>by simp [setObj,Sem.run,hb]
         have hch:∀(o:aN) (o':Obj),OR E φ o l (some o')→o.rw=true→OK E φ (h.put i (some o)) {w with heap:=w.heap.setIfInBounds l.fB o'}∧Fr φ h w φ (h.put i (some o)) {w with heap:=w.heap.setIfInBounds l.fB o'}:=fun o o' ho Qb=>by
          have pI:l.fB<w.heap.size:=by
           rcases Nat.lt_or_ge l.fB w.heap.size with a | a
           · exact a
           · rw[Array.getElem?_eq_none a] at hb;simp at hb
          exact ok.change hg rfl hφ (by simp [pI];exact ho) (fun c gX=>by simp [Ne.symm gX]) (by simp) rfl rfl rfl
         split at e
         · rename_i j v0 hf
           obtain ⟨r',h1,h2⟩:=pR hk jV hf
           cases r' with
           | none=>exact h2.elim
           | some q=>
           obtain ⟨j',v1⟩:=q
           obtain ⟨rfl,Lc,_,ent,A_,QB⟩:=h2
           simp at e;subst e
           obtain ⟨y,hy⟩:∃y,jO.toList[j]? =some y:=by
            have pI:j<es.length:=by simpa using (List.getElem?_eq_some_iff.1 A_).1
            exact ⟨jO.toList[j]'(by rw[←jV.1];exact pI),by simp⟩
           have hey:=jV.2 j ent y (by simpa using A_) hy
           obtain ⟨hsb,aaP⟩:=QB hk hey.key
           have hy':jO[j]? =some y:=by simpa using hy
           obtain ⟨qk,sv⟩:=hch (.map (fK es j v) clock) (.map (jO.modify j fun e=>{e with key:=k',val:=v'}) clock) ⟨Qe,_,rfl,by
            have:=v8 hv jV j (k':=k') (fun e he=>by
             have:e=ent:=by
              have h3:es[j]? =some ent:=by simpa using A_
              rw[h3] at he;simp at he;exact he.symm
             subst this;rw[←aaP];exact hey.key)
            simpa using this⟩ rfl
           refine ⟨_,?_,qk,sv⟩
           simp only[Instr.mapUpdate,Sem.run_bind,run_underlying hu,Result.andThen_ok,Ga,Tb,mL hd EL hk (h1 w),Sem.run_pure,hy',Option.map_some,Option.getD_some,Instr.keyThatStays,hsb,if_true,uZ _]
         · rename_i hf
           obtain ⟨r',h1,h2⟩:=pR hk jV hf
           cases r' with
           | some q=>exact h2.elim
           | none=>
           simp at e;subst e
           obtain ⟨qk,sv⟩:=hch (.map (es++[{key:=k,val:=v,born:=clock}]) (clock+1)) (.map (jO.push {key:=k',val:=v',born:=clock}) (clock+1)) ⟨Qe,_,rfl,by
            refine ⟨by simp [jV.1],fun j a b p q=>?_⟩
            rw[Array.toList_push] at q
            by_cases hj:j<es.length
            · rw[List.getElem?_append_left hj] at p
              rw[List.getElem?_append_left (by rw[←jV.1];exact hj)] at q
              exact jV.2 j a b p q
            · rw[List.getElem?_append_right (by omega)] at p
              rw[List.getElem?_append_right (by rw[←jV.1];omega),←jV.1] at q
              cases hjj:j - es.length with
              | zero=>rw[hjj] at p q;simp at p q;subst p;subst q;exact ⟨hk,hv,rfl⟩
              | succ n=>rw[hjj] at p;simp at p⟩ rfl
           refine ⟨_,?_,qk,sv⟩
           simp only[Instr.mapUpdate,Sem.run_bind,run_underlying hu,Result.andThen_ok,Ga,Tb,mL hd EL hk (h1 w),Sem.run_pure,uZ _]
         · simp at e
       · simp at e
   · simp at e
 · simp at e
theorem NS {φ:Ph} {k':Value} {es:List kO} {jO:List MapEntry} (h:Qo φ es jO) (i:Nat) (hk:∀e,es[i]? =some e→VR φ e.key k'):
 Qo φ es (jO.modify i fun e=>{e with key:=k'}):=by
 obtain ⟨hl,hv⟩:=h
 refine ⟨by rw[List.length_modify];exact hl,fun j a b p q=>?_⟩
 rw[List.getElem?_modify] at q
 by_cases e:i=j
 · subst e
   cases hb:jO[i]? with
   | none=>rw[hb] at q;simp at q
   | some y=>
    rw[hb] at q;simp at q;subst q
    have r:=hv i a y p hb
    exact ⟨hk a p,r.val,r.born⟩
 · have q':jO[j]? =some b:=by simpa [e] using q
   exact hv j a b p q'
theorem Cu:∀(es:List kO) (i j:Nat) (v:AV),(fK es i v)[j]? =if i=j then (es[j]?).map (fun e=>{e with val:=v}) else es[j]?
 | [],i,j,v=>by cases i<;>simp [fK]
 | e::es,0,0,v=>by simp [fK]
 | e::es,0,j+1,v=>by simp [fK]
 | e::es,i+1,0,v=>by simp [fK]
 | e::es,i+1,j+1,v=>by simp [fK,Cu es i j v]
theorem xf:∀(es:List kO) (i:Nat) (v:AV),(fK es i v).length=es.length
 | [],i,v=>by cases i<;>simp [fK]
 | e::es,0,v=>by simp [fK]
 | e::es,i+1,v=>by simp [fK,xf es i v]
theorem TI {φ:Ph} {v:AV} {v':Value} (hv:VR φ v v') {es:List kO} {jO:List MapEntry} (h:Qo φ es jO) (i:Nat):
 Qo φ (fK es i v) (jO.modify i fun e=>{e with val:=v'}):=by
 obtain ⟨hl,Lc⟩:=h
 refine ⟨by rw[List.length_modify,xf];exact hl,fun j a b p q=>?_⟩
 rw[List.getElem?_modify] at q
 rw[Cu] at p
 by_cases e:i=j
 · subst e
   cases hb:jO[i]? with
   | none=>rw[hb] at q;simp at q
   | some y=>
    rw[hb] at q;simp at q;subst q
    cases ha:es[i]? with
    | none=>rw[ha] at p;simp at p
    | some x=>
     rw[ha] at p;simp at p;subst p
     have r:=Lc i x y ha hb
     exact ⟨r.key,hv,r.born⟩
 · have q':jO[j]? =some b:=by simpa [e] using q
   have p':es[j]? =some a:=by simpa [e] using p
   exact Lc j a b p' q'
theorem OK.TJ {φ:Ph} {h:az} {w:World} (ok:OK E φ h w) {i:Nat} {es es2:List kO} {clock clock2:Nat} {Yk:Array MapEntry} {l:Loc} {O:Obj} (hg:h.get i=some (.map es clock)) (hφ:φ i=some l) (Qe:l.off=0) (hb:w.heap[l.fB]? =some O) (he:Qo φ es2 Yk.toList):
 OK E φ (h.put i (some (.map es2 clock2))) {w with heap:=w.heap.setIfInBounds l.fB (.map Yk clock2)}∧Fr φ h w φ (h.put i (some (.map es2 clock2))) {w with heap:=w.heap.setIfInBounds l.fB (.map Yk clock2)}:=by
 have pI:l.fB<w.heap.size:=by
  rcases Nat.lt_or_ge l.fB w.heap.size with a | a
  · exact a
  · rw[Array.getElem?_eq_none a] at hb;simp at hb
 exact ok.change hg rfl hφ (by simp [pI];exact ⟨Qe,_,rfl,he⟩) (fun c gX=>by simp [Ne.symm gX]) (by simp) rfl rfl rfl
theorem Le {φ:Ph} {h h':az} {w:World} (ok:OK E φ h w) {t:TypeId} {m k v:AV} {m' k':Value} (hm:VR φ m m') (hk:VR φ k k') (e:Ez E h t m k=some (v,h')):
 TA E φ h w ((Instr.mapEntry t m' k').run E.P w) v h':=by
 unfold Ez at e
 split at e
 · rename_i key elem i hu
   cases hm with
   | @map _ l hφ=>
   split at e
   · rename_i es clock hg
     split at e
     · rename_i Es
       have NL:∃d,E.P.underlying key=some d∧mI E (some d) k=true:=by
        cases hd:E.P.underlying key with
        | none=>rw[hd] at Es;simp [mI] at Es
        | some d=>rw[hd] at Es;exact ⟨d,rfl,Es⟩
       obtain ⟨d,hd,EL⟩:=NL
       have HJ:=ok.live i _ l hg hφ
       obtain ⟨Qe,jO,hb,jV⟩:=HJ
       have Ga:(getObj l.fB).run E.P w= .ok (.map jO clock) w:=by simp [getObj,Sem.run,hb]
       have Tb:=tM hd EL hk false 9998 w
       have uZ:∀o':Obj,(setObj l.fB o').run E.P w= .ok () {w with heap:=w.heap.setIfInBounds l.fB o'}:=fun o'=>by simp [setObj,Sem.run,hb]
       split at e
       · rename_i j v0 hf
         obtain ⟨r',h1,h2⟩:=pR hk jV hf
         cases r' with
         | none=>exact h2.elim
         | some q=>
         obtain ⟨j',v1⟩:=q
         obtain ⟨rfl,Lc,_,ent,A_,QB⟩:=h2
         have Wd:es[j]? =some ent:=by simpa using A_
         rw[Wd] at e
         simp at e;obtain ⟨rfl,rfl⟩:=e
         obtain ⟨y,hy⟩:∃y,jO.toList[j]? =some y:=by
          have pI:j<es.length:=by simpa using (List.getElem?_eq_some_iff.1 Wd).1
          exact ⟨jO.toList[j]'(by rw[←jV.1];exact pI),by simp⟩
         have hey:=jV.2 j ent y Wd hy
         obtain ⟨hsb,aaP⟩:=QB hk hey.key
         have hy':jO[j]? =some y:=by simpa using hy
         obtain ⟨qk,sv⟩:=ok.TJ (Yk:=jO.modify j fun e=>{e with key:=k'}) (clock2:=clock) hg hφ Qe hb (by
          have:=NS jV j (k':=k') (fun e he=>by
           have:e=ent:=by rw[Wd] at he;simp at he;exact he.symm
           subst this;rw[←aaP];exact hey.key)
          simpa using this)
         refine ⟨φ,_,.tuple #[v1,goInt y.born],?_,VR.tuple' (LR.cons Lc (LR.cons (by rw[←hey.born];exact .int _ _) (LR.nil φ))),qk,sv⟩
         simp only[Instr.mapEntry,Sem.run_bind,run_underlying hu,Result.andThen_ok,Ga,Tb,mL hd EL hk (h1 w),Sem.run_pure,hy',Option.map_some,Option.getD_some,Instr.keyThatStays,hsb,if_true,uZ _]
       · rename_i hf
         obtain ⟨r',h1,h2⟩:=pR hk jV hf
         cases r' with
         | some q=>exact h2.elim
         | none=>
         split at e
         · rename_i z hz
           simp at e;obtain ⟨rfl,rfl⟩:=e
           obtain ⟨z',Er,mj⟩:=kQ hz
           obtain ⟨qk,sv⟩:=ok.TJ (Yk:=jO.push {key:=k',val:=z',born:=clock}) (clock2:=clock+1) (es2:=es++[{key:=k,val:=z,born:=clock}]) hg hφ Qe hb (by
            refine ⟨by simp [jV.1],fun j a b p q=>?_⟩
            rw[Array.toList_push] at q
            by_cases hj:j<es.length
            · rw[List.getElem?_append_left hj] at p
              rw[List.getElem?_append_left (by rw[←jV.1];exact hj)] at q
              exact jV.2 j a b p q
            · rw[List.getElem?_append_right (by omega)] at p
              rw[List.getElem?_append_right (by rw[←jV.1];omega),←jV.1] at q
              cases hjj:j - es.length with
              | zero=>rw[hjj] at p q;simp at p q;subst p;subst q;exact ⟨hk,Er φ,rfl⟩
              | succ n=>rw[hjj] at p;simp at p)
           refine ⟨φ,_,.tuple #[z',goInt clock],?_,VR.tuple' (LR.cons (Er φ) (LR.cons (.int _ _) (LR.nil φ))),qk,sv⟩
           simp only[Instr.mapEntry,Sem.run_bind,run_underlying hu,Result.andThen_ok,Ga,Tb,mL hd EL hk (h1 w),Sem.run_pure,mj,uZ _]
         · simp at e
       · simp at e
     · simp at e
   · simp at e
 · simp at e
theorem Yl {φ:Ph} {es:List kO} {jO:List MapEntry} (h:Qo φ es jO) (p:Int→Bool):jO.findIdx? (fun e=>p (e.born:Int))=es.findIdx? (fun e=>p (e.born:Int)):=by
 have hm:jO.map (fun e=>(e.born:Int))=es.map (fun e=>(e.born:Int)):=by
  apply List.ext_getElem?
  intro j
  rw[List.getElem?_map,List.getElem?_map]
  by_cases hj:j<es.length
  · have h1:es[j]? =some es[j]:=by simp [hj]
    have tu:j<jO.length:=by rw[←h.1];exact hj
    have h2:jO[j]? =some jO[j]:=by simp [tu]
    rw[h1,h2,Option.map_some,Option.map_some,(h.2 j _ _ h1 h2).born]
  · rw[List.getElem?_eq_none (by rw[←h.1];omega),List.getElem?_eq_none (by omega)];rfl
 have a:=congrArg (List.findIdx? p) hm
 rw[List.findIdx?_map,List.findIdx?_map] at a
 exact a
theorem G_ {φ:Ph} {h h':az} {w:World} (ok:OK E φ h w) {t:TypeId} {m s x:AV} {m' s' x':Value} (hm:VR φ m m') (hs:VR φ s s') (hx:VR φ x x') (e:ya h m s x=some h'):
 ∃w',(Instr.entryStore t m' s' x').run E.P w= .ok () w'∧OK E φ h' w'∧Fr φ h w φ h' w':=by
 unfold ya at e
 split at e
 · rename_i i kd n
   cases hm with
   | @map _ l hφ=>
   cases hs with
   | int=>
   split at e
   · rename_i es clock hg
     split at e
     · rename_i j hj
       simp at e;subst e
       obtain ⟨Qe,jO,hb,jV⟩:=ok.live i _ l hg hφ
       have Ga:(getObj l.fB).run E.P w= .ok (.map jO clock) w:=by simp [getObj,Sem.run,hb]
       have uZ:∀o':Obj,(setObj l.fB o').run E.P w= .ok () {w with heap:=w.heap.setIfInBounds l.fB o'}:=fun o'=>by simp [setObj,Sem.run,hb]
       have tu:jO.findIdx? (fun e=>(e.born:Int)==n)=some j:=by
        have:=Yl jV (fun b=>b==n)
        rw[hj] at this
        cases jO;rw[List.findIdx?_toArray];exact this
       obtain ⟨qk,sv⟩:=ok.TJ (Yk:=jO.modify j fun e=>{e with val:=x'}) (clock2:=clock) hg hφ Qe hb (by
        have:=TI hx jV j
        simpa using this)
       refine ⟨_,?_,qk,sv⟩
       have e0:(Instr.entryStore t (.map (some l.fB)) (.int kd n) x').run E.P w=(setObj l.fB (.map (jO.modify j fun e=>{e with val:=x'}) clock)).run E.P w:=by
        have ha:(asInt (.int kd n)).run E.P w= .ok n w:=rfl
        simp only[Instr.entryStore,Sem.run_bind,Result.andThen_ok,Ga,ha,Sem.run_pure,tu]
       rw[e0];exact uZ _
     · simp at e
   · simp at e
 · simp at e
theorem NU {s:ByteArray} {pos:Nat} {b:UInt8} (h:s.data.toList[pos]? =some b) (hb:b.toNat<128):Utf8.decode s pos=(b.toNat,1):=by
 have hl:pos<s.size:=(List.getElem?_eq_some_iff.1 h).1
 have hb':s[pos]'hl=b:=by
  have:=(List.getElem?_eq_some_iff.1 h).2
  rw[←this];rfl
 rw[decode_ascii s pos hl (by rw[hb'];exact hb),hb']
set_option linter.unusedSimpArgs false in
theorem Ym {φ:Ph} {h h':az} {w:World} (ok:OK E φ h w) {it v:AV} {b:Bool} (e:aax h it b=some (v,h')) {it':Value} (hit:VR φ it it') (ty:TypeId):
 TA E φ h w ((Instr.next it' b ty).run E.P w) v h':=by
 unfold aax at e
 split at e
 · rename_i r
   cases hit with
   | @ptr _ l _ hφ=>
   split at e
   · rename_i s pos hg
     have HJ:=ok.live r _ l hg hφ
     obtain ⟨Qe,s',hb,uT⟩:=HJ
     have Ga:(getObj l.fB).run E.P w= .ok (.stringIter s' pos) w:=by simp [getObj,Sem.run,hb]
     have e1:s'.size=s.length:=by rw[←uT];cases s';rfl
     split at e
     · rename_i pI
       split at e
       · rename_i c hc
         split at e
         · rename_i aqY
           simp at e;obtain ⟨rfl,rfl⟩:=e
           have uZ:(setObj l.fB (.stringIter s' (pos+1))).run E.P w= .ok () {w with heap:=w.heap.setIfInBounds l.fB (.stringIter s' (pos+1))}:=by simp [setObj,Sem.run,hb]
           have aqZ:l.fB<w.heap.size:=by
            rcases Nat.lt_or_ge l.fB w.heap.size with a | a
            · exact a
            · rw[Array.getElem?_eq_none a] at hb;simp at hb
           obtain ⟨qk,sv⟩:=ok.change (w':={w with heap:=w.heap.setIfInBounds l.fB (.stringIter s' (pos+1))}) (o':= .xb s (pos+1)) hg rfl hφ (by simp [aqZ];exact ⟨Qe,s',rfl,uT⟩) (fun c gX=>by simp [Array.getElem?_setIfInBounds,Ne.symm gX]) (by simp) rfl rfl rfl
           refine ⟨φ,_,.tuple #[.bool true,.int .i64 pos,.int .i32 c.toNat],?_,VR.tuple' (lj:=[.bool true,.int .i64 pos,.int .i32 c.toNat]) (.cons (.bool true) (.cons (.int _ _) (.cons (.int _ _) (.nil φ)))),qk,sv⟩
           have aq0:=NU (s:=s') (pos:=pos) (b:=c) (by rw[uT];exact hc) aqY
           have h0:l.off+0=0:=by omega
           simp only[Instr.next,h0,Sem.run_bind,Ga,Result.andThen_ok,e1,pI,if_true,aq0,uZ,Sem.run_pure,goInt]
         · simp at e
       · simp at e
     · rename_i pI
       simp at e;obtain ⟨rfl,rfl⟩:=e
       refine ⟨φ,w,.tuple #[.bool false],?_,VR.tuple' (lj:=[.bool false]) (.cons (.bool false) (.nil φ)),ok,Fr.refl φ h w⟩
       have h0:l.off+0=0:=by omega
       simp only[Instr.next,h0,Sem.run_bind,Ga,Result.andThen_ok,e1,pI,if_false,Sem.run_pure]
   · rename_i s1 s2 s3 hg
     have HJ:=ok.live r _ l hg hφ
     obtain ⟨Qe,hb⟩:=HJ
     have Ga:(getObj l.fB).run E.P w= .ok (.mapIter none s1 s2.toArray s3) w:=by simp [getObj,Sem.run,hb]
     simp at e;obtain ⟨rfl,rfl⟩:=e
     refine ⟨φ,w,.tuple #[.bool false],?_,VR.tuple' (lj:=[.bool false]) (.cons (.bool false) (.nil φ)),ok,Fr.refl φ h w⟩
     have h0:l.off+0=0:=by omega
     simp only[Instr.next,h0,Sem.run_bind,Ga,Result.andThen_ok,Sem.run_pure]
   · simp at e
 · simp at e
end Go.Ab
end
section
namespace Go.Ab
variable {E:Env}
def DR (φ:Ph):Ae→Deferred→Prop
 | .call f args,d'=>∃cap,d'.target= .fn (.func f) cap∧LR φ args (d'.args++cap).toList
 | .col r,d'=>∃l,φ r=some l∧d'.target= .collected l.fB
def DsR (φ:Ph):List Ae→List Deferred→Prop
 | [],[]=>True
 | d::ds,d'::EM=>DR φ d d'∧DsR φ ds EM
 | _,_=>False
theorem DR.mono {φ φ':Ph} (hle:φ.le φ') {d:Ae} {d':Deferred} (h:DR φ d d'):DR φ' d d':=by
 cases d with
 | call f args=>obtain ⟨c,a,b⟩:=h;exact ⟨c,a,b.mono hle⟩
 | col r=>obtain ⟨l,a,b⟩:=h;exact ⟨l,hle _ _ a,b⟩
theorem DsR.mono {φ φ':Ph} (hle:φ.le φ'):∀{ds:List Ae} {EM:List Deferred} (_:DsR φ ds EM),DsR φ' ds EM
 | [],[],_=>trivial
 | _::_,_::_,h=>⟨h.1.mono hle,DsR.mono hle h.2⟩
structure SR (φ:Ph) (ts:List AV) (ds:List Ae) (a:Act):Prop where
 ts:LR φ ts a.tmps.toList
 ds:DsR φ ds a.defers
theorem SR.mono {φ φ':Ph} (hle:φ.le φ') {ts:List AV} {ds:List Ae} {a:Act} (h:SR φ ts ds a):SR φ' ts ds a:=⟨h.ts.mono hle,h.ds.mono hle⟩
def ru (φ:Ph) (b:Frame) (K:Bool→List Frame):RC→Prop
 | .no=>b.roundOf=none∧∀fr:Frame,fr.kind=b.kind→tryRecover fr (K false)=none
 | .mJ v=>b.roundOf=none∧(∃v',VR φ v v'∧∀fr:Frame,fr.kind=b.kind→tryRecover fr (K false)=some (v',K true))∧∀fr:Frame,fr.kind=b.kind→tryRecover fr (K true)=none
 | .done=>b.roundOf=none∧∀fr:Frame,fr.kind=b.kind→tryRecover fr (K true)=none
 | .bar l=>∃ll,φ l=some ll∧b.roundOf=some ll.fB
def cur (K:Bool→List Frame):RC→List Frame
 | .done=>K true
 | _=>K false
def RC.sM:RC→Bool
 | .bar _=>true
 | _=>false
theorem ru.mono {φ φ':Ph} (hle:φ.le φ') {b:Frame} {K:Bool→List Frame}:∀{rc:RC} (_:ru φ b K rc),ru φ' b K rc
 | .no,h=>h
 | .mJ _,h=>let ⟨n,⟨v',a,b⟩,c⟩:=h;⟨n,⟨v',a.mono hle,b⟩,c⟩
 | .done,h=>h
 | .bar _,h=>let ⟨l,a,b⟩:=h;⟨l,hle _ _ a,b⟩
theorem ru.plain {φ:Ph} {b:Frame} {K:Bool→List Frame} {rc:RC} (h:ru φ b K rc) (hn:rc.sM=false):b.roundOf=none:=by
 cases rc with
 | no=>exact h.1
 | mJ v=>exact h.1
 | done=>exact h.1
 | bar l=>simp [RC.sM] at hn
inductive ExR (φ:Ph):oP→Exit→Prop
 | normal:ExR φ .normal .normal
 | exit (id:Nat):ExR φ (.exit id) (.exit id)
 | ret:ExR φ .ret .ret
 | panic (v:AV) (v':Value) (h:VR φ v v'):ExR φ (.panic v) (.panic [{v:=v',recovered:=false}])
def kR (E:Env) (f:FuncId) (args:List AV) (h:az) (v:AV) (h':az):Prop:=
 ∀(φ:Ph) (w:World) (vs:List Value),OK E φ h w→LR φ args vs→(callFunc f vs.toArray).run E.P w= .ok (.enter f vs.toArray) w∧
  ∀cs,∃φ' w' v' fr,VR φ' v v'∧OK E φ' h' w'∧Fr φ h w φ' h' w'∧
   Steps E.P (lone (Frame.enter E.P f vs.toArray .normal) cs w) (lone fr cs w')∧fr.fn=f∧fr.leaving E.P w' (.returned v')
def Wf (E:Env) (f:FuncId) (args:List AV) (h:az) (v:AV) (h':az):Prop:=
 ∀(φ:Ph) (w:World) (vs:List Value),OK E φ h w→LR φ args vs→(callFunc f vs.toArray).run E.P w= .ok (.enter f vs.toArray) w∧
  ∀cs,∃φ' w' v' fr,VR φ' v v'∧OK E φ' h' w'∧Fr φ h w φ' h' w'∧
   Steps E.P (lone (Frame.enter E.P f vs.toArray .normal) cs w) (lone fr cs w')∧fr.fn=f∧fr.leaving E.P w' (.panicked [{v:=v',recovered:=false}])
inductive sO (E:Env) (φ:Ph) (w:World):Fn→List Value→Next→Frame→Prop
 | fn (f:FuncId) (vs:List Value) (hr:(callFunc f vs.toArray).run E.P w= .ok (.enter f vs.toArray) w):sO E φ w (.fn f) vs (.enter f vs.toArray) (Frame.enter E.P f vs.toArray .normal)
 | K_ (l:Nat) (ll:Loc) (hl:φ l=some ll) (vs:List Value) (f:FuncId) (tmps:Array Value) (assign body:Code) (hr:(Instr.yield ll.fB vs.toArray).run E.P w= .ok (.round ll.fB f tmps assign body) w):
  sO E φ w (.K_ l) vs (.round ll.fB f tmps assign body) (Frame.round ll.fB f tmps assign body .normal)
def aaQ (φ:Ph):Fn→Prop
 | .fn _=>True
 | .K_ l=>∃ll,φ l=some ll
def TL (E:Env) (F:Fn) (args:List AV) (h:az) (v:AV) (h':az):Prop:=
 ∀(φ:Ph) (w:World) (vs:List Value),OK E φ h w→aaQ φ F→LR φ args vs→∃n start,sO E φ w F vs n start∧
  ∀c cs,∃φ' w' v',VR φ' v v'∧OK E φ' h' w'∧Fr φ h w φ' h' w'∧Steps E.P (lone start (c::cs) w) (lone (c.finish v') cs w')
def TM (E:Env) (F:Fn) (args:List AV) (h:az) (v:AV) (h':az):Prop:=
 ∀(φ:Ph) (w:World) (vs:List Value),OK E φ h w→aaQ φ F→LR φ args vs→∃n start,sO E φ w F vs n start∧
  ∀c cs,∃φ' w' v',VR φ' v v'∧OK E φ' h' w'∧Fr φ h w φ' h' w'∧Steps E.P (lone start (c::cs) w) (lone (c.raise [{v:=v',recovered:=false}]) cs w')
theorem kR.any {f:FuncId} {args:List AV} {h:az} {v:AV} {h':az} (r:kR E f args h v h'):TL E (.fn f) args h v h':=fun φ w vs ok _ hl=>by
 obtain ⟨h1,h2⟩:=r φ w vs ok hl
 refine ⟨_,_,.fn f vs h1,fun c cs=>?_⟩
 obtain ⟨φ',w',v',fr,x1,x2,x3,x4,_,x5⟩:=h2 (c::cs)
 exact ⟨φ',w',v',x1,x2,x3,x4.trans (.one (step_leave_returned x5))⟩
theorem Wf.any {f:FuncId} {args:List AV} {h:az} {v:AV} {h':az} (r:Wf E f args h v h'):TM E (.fn f) args h v h':=fun φ w vs ok _ hl=>by
 obtain ⟨h1,h2⟩:=r φ w vs ok hl
 refine ⟨_,_,.fn f vs h1,fun c cs=>?_⟩
 obtain ⟨φ',w',v',fr,x1,x2,x3,x4,_,x5⟩:=h2 (c::cs)
 exact ⟨φ',w',v',x1,x2,x3,x4.trans (.one (step_leave_panicked x5))⟩
structure kS (E:Env) (call:b8):Prop where
 ret:∀f args h v h',call f args h= .ret v h'→TL E f args h v h'
 panic:∀f args h v h',call f args h= .panic v h'→TM E f args h v h'
structure ml (E:Env):Prop where
 ext:ah8 E
 zC:∀f g,E.zC f=some g→∀args h v h',g args h=some (v,h')→kR E f args h v h'
 names:∀(f:FuncId) (fn:Func),E.P.funcs[f]? =some fn→fn.name≠ "runtime.NumGoroutine"
 mixed:E.P.follows .mixedOrders=true
theorem aaR {φ:Ph} {ts:List AV} {a:Act} (h:LR φ ts a.tmps.toList) (d:Option Tmp) {v:AV} {v':Value} (hv:VR φ v v'):LR φ (gR ts d v) (a.put d v').tmps.toList:=by
 cases d with
 | none=>exact h
 | some d=>simp only[gR,Act.put,Array.toList_setIfInBounds];exact h.set hv d
theorem put_defers (a:Act) (d:Option Tmp) (v:Value):(a.put d v).defers=a.defers:=by cases d<;>rfl
theorem SR.put {φ:Ph} {ts:List AV} {ds:List Ae} {a:Act} (h:SR φ ts ds a) (d:Option Tmp) {v:AV} {v':Value} (hv:VR φ v v'):SR φ (gR ts d v) ds (a.put d v'):=
 ⟨aaR h.ts d hv,by rw[put_defers];exact h.ds⟩
theorem Bb {φ:Ph} {ops:Array Oper} {ts:List AV} {a:Act} (h:LR φ ts a.tmps.toList) (o:Oper):Region.wanted o (yielded ops a.tmps)=fA ops ts o:=by
 unfold Region.wanted fA
 cases o.guard with
 | none=>rfl
 | some g=>
  obtain ⟨j,want⟩:=g
  simp only[yielded]
  cases hd:(ops[j]?).bind (·.dst) with
  | none=>simp
  | some d=>
   simp only[Option.bind_some]
   cases hx:ts[d]? with
   | none=>
    have:a.tmps[d]? =none:=by
     have h1:=List.getElem?_eq_none_iff.1 hx
     rw[h.1] at h1
     have:=List.getElem?_eq_none_iff.2 h1
     simpa using this
    simp [this]
   | some x=>
    obtain ⟨y,hy,hv⟩:=h.get hx
    have hy':a.tmps[d]? =some y:=by simpa using hy
    rw[hy']
    cases hv with
    | any _ h=>cases y<;>first | (simp;done) | cases h
    | _=>simp
section
variable {b:Frame} {a:Act} {k:List Item} {cs:List Frame} {w:World} {ops:Array Oper} {i:Nat} {rest:List Nat} {o:Oper}
theorem zH (ho:ops[i]? =some o) (v:Value):(b.atR a (.inRegion ops (i::rest)::k)).finish v=b.atR (a.put o.dst v) (.inRegion ops rest::k):=by
 rw[Frame.finish_atR,ho];rfl
theorem qy {P:Program} (oh:o.semAt b.roundOf a.eval=execOp a.eval o) (ho:ops[i]? =some o) (hw:Region.wanted o (yielded ops a.tmps)=true) {v:Value} {w':World} (hr:(execOp a.eval o).run P w= .ok (.value v) w'):
 step P (lone (b.atR a (.inRegion ops (i::rest)::k)) cs w)= .next (lone (b.atR (a.put o.dst v) (.inRegion ops rest::k)) cs w'):=by
 rw[←zH ho]
 exact step_lone_go (by rw[stepGR_op (rest:=rest) ho hw,oh];simp [stepG.apply,hr])
theorem QC {P:Program} (oh:o.semAt b.roundOf a.eval=execOp a.eval o) (ho:ops[i]? =some o) (hw:Region.wanted o (yielded ops a.tmps)=true) {w':World} (hr:(execOp a.eval o).run P w= .ok .skip w'):
 step P (lone (b.atR a (.inRegion ops (i::rest)::k)) cs w)= .next (lone (b.atR (a.put o.dst undef) (.inRegion ops rest::k)) cs w'):=by
 rw[←zH ho]
 exact step_lone_go (by rw[stepGR_op (rest:=rest) ho hw,oh];simp [stepG.apply,hr])
theorem go_enter {φ:Ph} (oh:o.semAt b.roundOf a.eval=execOp a.eval o) (ho:ops[i]? =some o) (hw:Region.wanted o (yielded ops a.tmps)=true) {F:Fn} {vs:List Value} {n:Next} {start:Frame} (hp:sO E φ w F vs n start) (hr:(execOp a.eval o).run E.P w= .ok n w):
 step E.P (lone (b.atR a (.inRegion ops (i::rest)::k)) cs w)= .next (lone start (b.atR a (.inRegion ops (i::rest)::k)::cs) w):=by
 cases hp with
 | fn f vs _=>exact step_lone_go (by rw[stepGR_op (rest:=rest) ho hw,oh];simp [stepG.apply,hr,Frame.atR])
 | K_ l ll hl vs f tmps assign body _=>exact step_lone_go (by rw[stepGR_op (rest:=rest) ho hw,oh];simp [stepG.apply,hr,Frame.atR])
theorem aaS {P:Program} (oh:o.semAt b.roundOf a.eval=execOp a.eval o) (ho:ops[i]? =some o) (hw:Region.wanted o (yielded ops a.tmps)=true) {v:Value} {w':World} (hr:(execOp a.eval o).run P w= .halt (.panic v) w'):
 step P (lone (b.atR a (.inRegion ops (i::rest)::k)) cs w)= .next (lone {b.atR a (.inRegion ops (i::rest)::k) with mode:= .panicking [{v,recovered:=false}]} cs w'):=by
 rw[←Frame.raise_atR]
 exact step_lone_go (by rw[stepGR_op (rest:=rest) ho hw,oh];simp [stepG.apply,hr])
theorem Yn {P:Program} (oh:o.semAt b.roundOf a.eval=execOp a.eval o) (ho:ops[i]? =some o) (hw:Region.wanted o (yielded ops a.tmps)=true) {d:Deferred} {w':World} (hr:(execOp a.eval o).run P w= .ok (.defer d) w'):
 step P (lone (b.atR a (.inRegion ops (i::rest)::k)) cs w)= .next (lone (b.atR ({a with defers:=d::a.defers}.put o.dst undef) (.inRegion ops rest::k)) cs w'):=by
 have:({b.atR a (.inRegion ops (i::rest)::k) with defers:=d::a.defers}:Frame).finish undef=
  b.atR ({a with defers:=d::a.defers}.put o.dst undef) (.inRegion ops rest::k):=by
  have:=Frame.finish_atR b {a with defers:=d::a.defers} ops i rest k undef
  rw[ho] at this;exact this
 refine step_lone_go ?_
 rw[stepGR_op (rest:=rest) ho hw,oh]
 simp only[stepG.apply,Sem.runT_eq,hr,GStep.bare_after]
 exact congrArg (fun fr=>GStep.go {frame:=fr,callers:=cs,status:= .running,dying:=none} w') this
theorem TN {P:Program} (EN:b.roundOf=none) (oh:o.semAt b.roundOf a.eval=execOp a.eval o) (ho:ops[i]? =some o) (hw:Region.wanted o (yielded ops a.tmps)=true) {w':World} (hr:(execOp a.eval o).run P w= .ok .recover w') {v:Value} {lj:List Frame}
 (ht:tryRecover (b.atR a (.inRegion ops (i::rest)::k)) cs=some (v,lj)):
 step P (lone (b.atR a (.inRegion ops (i::rest)::k)) cs w)= .next (lone (b.atR (a.put o.dst v) (.inRegion ops rest::k)) lj w'):=by
 rw[←zH ho]
 refine step_lone_go ?_
 rw[stepGR_op (rest:=rest) ho hw,oh]
 have hro:(b.atR a (.inRegion ops (i::rest)::k)).roundOf=none:=EN
 simp only[stepG.apply,Sem.runT_eq,if_true,hr,GStep.bare_after,hro,ht,GStep.bare_go]
theorem Ay {P:Program} (EN:b.roundOf=none) (oh:o.semAt b.roundOf a.eval=execOp a.eval o) (ho:ops[i]? =some o) (hw:Region.wanted o (yielded ops a.tmps)=true) {w':World} (hr:(execOp a.eval o).run P w= .ok .recover w')
 (ht:tryRecover (b.atR a (.inRegion ops (i::rest)::k)) cs=none):
 step P (lone (b.atR a (.inRegion ops (i::rest)::k)) cs w)= .next (lone (b.atR (a.put o.dst .nilIface) (.inRegion ops rest::k)) cs w'):=by
 rw[←zH ho]
 refine step_lone_go ?_
 rw[stepGR_op (rest:=rest) ho hw,oh]
 have hro:(b.atR a (.inRegion ops (i::rest)::k)).roundOf=none:=EN
 simp only[stepG.apply,Sem.runT_eq,if_true,hr,GStep.bare_after,hro,ht,GStep.bare_go]
end
def am1 (P:Program) (m:Machine) (b:Frame) (ops:Array Oper) (rest:List Nat) (k:List Item) (cs:List Frame):Exit→Act→World→Prop
 | .normal,a,w=>Steps P m (lone (b.atR a (.inRegion ops rest::k)) cs w)
 | .panic chain,a,w=>∃todo,Steps P m (lone {b.atR a todo with mode:= .panicking chain} cs w)
 | _,_,_=>False
def Wg (φ:Ph):Fn→Target→List Value→List Value→Prop
 | .fn f,t,vs,all=>∃cap:List Value,t= .fn (.func f) cap.toArray∧all=vs++cap
 | .K_ l,t,vs,all=>∃ll,φ l=some ll∧t= .fn (.yield ll.fB) #[]∧all=vs
theorem Wg.am2 {φ:Ph} {F:Fn} {t:Target} {vs all:List Value} (h:Wg φ F t vs all):aaQ φ F:=by
 cases F with
 | fn f=>trivial
 | K_ l=>obtain ⟨ll,h,_⟩:=h;exact ⟨ll,h⟩
theorem Iw {φ:Ph} (hg:GL E φ) {ts:List AV} {a:Act} (ht:LR φ ts a.tmps.toList) {c:Call} {f:Fn} {args:List AV} (h:callee E ts c=some (f,args)) (ty:TypeId):
 ∃(t:Target) (vs all:List Value),LR φ args all∧Wg φ f t vs all∧∀w,(resolve a.eval c ty).run E.P w= .ok {target:=t,args:=vs.toArray} w:=by
 unfold callee at h
 split at h
 · rename_i x hcx
   split at h
   · rename_i g first captured as_ hx has
     simp at h;obtain ⟨rfl,rfl⟩:=h
     have h1:=rp hg ht hx
     have h2:=kP hg ht has
     generalize oD:a.eval x=cv at h1
     obtain ⟨fs',lj,rfl,hf,hc⟩:=h1.Cm
     refine ⟨.fn (.func g) lj.toList.toArray,fs'.toList++c.args.toList.map a.eval,_,?_,⟨lj.toList,rfl,rfl⟩,fun w=>?_⟩
     · rw[List.append_assoc]
       have:=(hf.append h2).append hc
       simpa [List.append_assoc] using this
     · simp [resolve,hcx,Deferred.ofValue,oD,map_toArray]
   · rename_i l as_ hx has
     simp at h;obtain ⟨rfl,rfl⟩:=h
     have h1:=rp hg ht hx
     have h2:=kP hg ht has
     generalize oD:a.eval x=cv at h1
     cases h1 with
     | yield hl=>
      refine ⟨_,c.args.toList.map a.eval,_,h2,⟨_,hl,rfl,rfl⟩,fun w=>?_⟩
      simp [resolve,hcx,Deferred.ofValue,oD,map_toArray]
   · simp at h
 · simp at h
theorem Lf {φ:Ph} {w:World} {F:Fn} {t:Target} {vs all:List Value} (ht:Wg φ F t vs all) {n:Next} {start:Frame} (hp:sO E φ w F all n start):(invoke t vs.toArray).run E.P w= .ok n w:=by
 cases hp with
 | fn f yk hr=>
  obtain ⟨cap,rfl,rfl⟩:=ht
  simpa [invoke] using hr
 | K_ l ll hl yk f tmps assign body hr=>
  obtain ⟨ll',hl',rfl,rfl⟩:=ht
  rw[hl] at hl';simp at hl';subst hl'
  simpa [invoke] using hr
theorem v_ {φ:Ph} {b:Frame} {K:Bool→List Frame} {rc:RC} (jK:ru φ b K rc) {o:Oper} (h:rc.sM=false∨∀c,o.op≠ .defer c) (ρ:Operand→Value):o.semAt b.roundOf ρ=execOp ρ o:=by
 rcases h with h | h
 · rw[jK.plain h];rfl
 · exact Oper.semAt_eq _ _ _ h
end Go.Ab
end
section
namespace Go.Ab
variable {E:Env}
theorem Ix {rc:RC} (h:∀l,rc= .bar l→False):rc.sM=false:=by
 cases rc<;>first | rfl | exact (h _ rfl).elim
theorem OK.gl {φ:Ph} {h:az} {w:World} (ok:OK E φ h w):GL E φ:=ok.yh
inductive yn (E:Env) (call:b8) (φ:Ph) (ts:List AV) (h:az) (rc:RC) (o:Oper) (a:Act) (w:World):ajd→Prop
 | val (v:AV) (h':az) (φ':Ph) (w':World) (v':Value) (hv:VR φ' v v') (ok:OK E φ' h' w') (fr:Fr φ h w φ' h' w')
  (run:(execOp a.eval o).run E.P w= .ok (.value v') w'):yn E call φ ts h rc o a w (.val v h')
 | skip (h':az) (φ':Ph) (w':World) (ok:OK E φ' h' w') (fr:Fr φ h w φ' h' w')
  (run:(execOp a.eval o).run E.P w= .ok .skip w'):yn E call φ ts h rc o a w (.val AV.undef h')
 | enter (v:AV) (h':az) (F:Fn) (args:List AV) (all:List Value) (hr:TL E F args h v h') (hf:aaQ φ F) (hl:LR φ args all)
  (run:∀n start,sO E φ w F all n start→(execOp a.eval o).run E.P w= .ok n w):yn E call φ ts h rc o a w (.val v h')
 | afG (v:AV) (h':az) (F:Fn) (args:List AV) (all:List Value) (hr:TM E F args h v h') (hf:aaQ φ F) (hl:LR φ args all)
  (run:∀n start,sO E φ w F all n start→(execOp a.eval o).run E.P w= .ok n w):yn E call φ ts h rc o a w (.panic v h')
 | defer (d:Ae) (d':Deferred) (K6:rc.sM=false) (hd:DR φ d d') (run:(execOp a.eval o).run E.P w= .ok (.defer d') w):yn E call φ ts h rc o a w (.defer d)
 | panic (v:AV) (v':Value) (hv:VR φ v v') (run:(execOp a.eval o).run E.P w= .halt (.panic v') w):yn E call φ ts h rc o a w (.panic v h)
 | L8 (v:AV) (jK:rc= .mJ v) (run:(execOp a.eval o).run E.P w= .ok .recover w):yn E call φ ts h rc o a w (.L8 v)
 | aaT (jK:∀v,rc≠ .mJ v) (K6:rc.sM=false) (run:(execOp a.eval o).run E.P w= .ok .recover w):yn E call φ ts h rc o a w (.val .nilIface h)
 | fail (yd:String) (q:Option Oper):yn E call φ ts h rc o a w (.fail yd q)
theorem QD {t:TypeId} {name:String} {f:FuncId} (h:Nw E t name=some f) (v:Value) (w:World):(method (E.P.types.size+Made.depth) t v name).run E.P w= .ok (f,v) w:=by
 unfold Nw at h
 split at h
 · rename_i i hi
   split at h
   · rename_i m hm
     split at h
     · rename_i hp
       split at h
       · simp at h
       · rename_i g d gX hf hu
         simp at h;subst h
         have Yh:m.path.toList=[]:=by simpa using hp
         have e:E.P.types.size+Made.depth=(E.P.types.size+99)+1:=rfl
         rw[e,method]
         have hti:(typeInfo t).run E.P w= .ok i w:=by simp [typeInfo,hi]
         simp only[Sem.run_bind,hti,Result.andThen_ok,hm,Yh,follow,Sem.run_pure,hf,receiverAt,run_underlying hu]
         cases d with
         | pointer x=>exact absurd rfl (gX x)
         | _=>simp [Place.get]
       · simp at h
     · simp at h
   · simp at h
 · simp at h
theorem yp {call:b8} {φ:Ph} {ts:List AV} {h:az} {rc:RC} {o:Oper} {a:Act} {w:World} {s:Sem Value} {v:AV} {h':az} (hd:TA E φ h w (s.run E.P w) v h')
 (he:execOp a.eval o=(do pure (.value (←s)):Sem Next)):yn E call φ ts h rc o a w (.val v h'):=by
 obtain ⟨φ',w',v',hr,hv,ok,fr⟩:=hd
 exact .val v h' φ' w' v' hv ok fr (by rw[he];exact gY hr)
set_option maxHeartbeats 1000000 in
theorem Bc (hE:ml E) {call:b8} (eK:kS E call) {φ:Ph} {ts:List AV} {h:az} {rc:RC} {o:Oper} {a:Act} {w:World} (ht:LR φ ts a.tmps.toList) (ok:OK E φ h w):
 yn E call φ ts h rc o a w (j4 E call ts h rc o):=by
 have ev:∀{x:Operand} {v:AV},gn E ts x=some v→VR φ v (a.eval x):=fun h=>rp ok.gl ht h
 obtain ⟨dst,op,ty,pos,after,guard⟩:=o
 unfold j4
 simp only
 split
 ·
  split
  · rename_i ha hx
    split
    · rename_i h' lN
      obtain ⟨w',hr,qk,sv⟩:=TB ok (ev ha) (ev hx) lN
      exact .skip h' φ w' qk sv (by simp [execOp,hr])
    · exact .fail _ _
  · exact .fail _ _
 ·
  split
  · rename_i hm hk hx
    split
    · rename_i h' lN
      obtain ⟨w',hr,qk,sv⟩:=ym ok (ev hm) (ev hk) (ev hx) lN
      exact .skip h' φ w' qk sv (by simp [execOp,hr])
    · exact .fail _ _
  · exact .fail _ _
 ·
  split
  · rename_i hm hk hx
    split
    · rename_i h' lN
      obtain ⟨w',hr,qk,sv⟩:=ym ok (ev hm) (ev hk) (ev hx) lN
      exact .skip h' φ w' qk sv (by simp [execOp,hr])
    · exact .fail _ _
  · exact .fail _ _
 ·
  split
  · rename_i hm hk
    split
    · rename_i v h' hc
      exact yp (Le ok (ev hm) (ev hk) hc) rfl
    · exact .fail _ _
  · exact .fail _ _
 ·
  rename_i tt mm bb xx
  split
  · rename_i hm hk hx
    split
    · rename_i h' lN
      obtain ⟨w',hr,qk,sv⟩:=G_ (t:=tt) ok (ev hm) (ev hk) (ev hx) lN
      exact .skip h' φ w' qk sv (by simp [execOp,hr])
    · exact .fail _ _
  · exact .fail _ _
 ·
  rename_i src dst x
  split
  · rename_i v h' hc
    cases hx:gn E ts x with
    | none=>rw[hx] at hc;simp [Ql] at hc
    | some xv=>
     rw[hx] at hc
     exact yp (Yj ok hc (ev hx)) rfl
  · exact .fail _ _
 ·
  split
  · rename_i hi
    split
    · rename_i hn
      exact yp (Ym ok hn (ev hi) ty) rfl
    · exact .fail _ _
  · exact .fail _ _
 ·
  split
  · rename_i hx
    have h1:=ev hx
    generalize oD:a.eval _=cv at h1
    cases h1 with
    | iface t1 v1 v' hv=>
    exact .panic _ _ (.iface _ _ v' hv) (by simp [execOp,oD,Instr.panic])
  · exact .fail _ _
 ·
  split
  · exact .fail _ _
  · rename_i f args K6 hc
    obtain ⟨t,vs,all,hl,⟨cap,rfl,rfl⟩,hr⟩:=Iw ok.gl ht hc ty
    exact .defer _ {target:= .fn (.func f) cap.toArray,args:=vs.toArray} (Ix K6) ⟨cap.toArray,rfl,by simpa using hl⟩ (by simp [execOp,hr])
  · exact .fail _ _
 ·
  rename_i c
  split
  ·
   rename_i Lg
   split
   · rename_i s x has
     have hl:=kP ok.gl ht has
     obtain ⟨s',r1,hr1,hs,hl1⟩:=hl.dp
     obtain ⟨x',r2,hr2,hx,hl2⟩:=hl1.dp
     have h0:c.args.map a.eval= #[s',x']:=by rw[map_toArray,hr1,hr2,hl2.jJ]
     split
     · rename_i hap
       exact yp (Qx ok hap hs hx ty) (by simp [execOp,resolve,Lg,invoke,builtin,h0])
     · exact .fail _ _
   · exact .fail _ _
  ·
   rename_i Lg
   split
   · rename_i s x has
     have hl:=kP ok.gl ht has
     obtain ⟨s',r1,hr1,hs,hl1⟩:=hl.dp
     obtain ⟨x',r2,hr2,hx,hl2⟩:=hl1.dp
     have h0:c.args.map a.eval= #[s',x']:=by rw[map_toArray,hr1,hr2,hl2.jJ]
     split
     · rename_i hap
       exact yp (Yi ok hap hs hx ty) (by simp [execOp,resolve,Lg,invoke,builtin,h0])
     · exact .fail _ _
   · exact .fail _ _
  ·
   rename_i Lg
   have jP:(execOp a.eval ⟨dst,.call c,ty,pos,after,guard⟩).run E.P w= .ok .recover w:=by simp [execOp,resolve,Lg,invoke,builtin]
   split
   · exact .L8 _ rfl jP
   · exact .fail _ _
   · rename_i gX K6
     exact .aaT (fun v e=>gX v e) (Ix K6) jP
  ·
   rename_i fo Lg
   split
   · rename_i F args hc
     obtain ⟨t,vs,all,hl,htg,hr⟩:=Iw ok.gl ht hc ty
     have jP:∀n start,sO E φ w F all n start→(execOp a.eval ⟨dst,.call c,ty,pos,after,guard⟩).run E.P w= .ok n w:=fun n start hp=>by
      have:=Lf htg hp
      simp [execOp,hr,this]
     split
     · rename_i g hg
       split
       · rename_i v h' hgv
         cases F with
         | fn f=>exact .enter v h' (.fn f) args all (hE.zC f g hg args h v h' hgv).any trivial hl jP
         | K_ l=>simp [EA] at hg
       · exact .fail _ _
     · split
       · rename_i v h' oD
         exact .enter v h' F args all (eK.ret F args h v h' oD) htg.am2 hl jP
       · rename_i v h' oD
         exact .afG v h' F args all (eK.panic F args h v h' oD) htg.am2 hl jP
       · exact .fail _ _
   · exact .fail _ _
  ·
   rename_i r name Lg
   split
   · rename_i t x args hx has
     split
     · rename_i f hm
       have h1:=ev hx
       generalize oD:a.eval r=cv at h1
       cases h1 with
       | iface t1 v1 v' hv=>
       have hl:LR φ (x::args) (v'::c.args.toList.map a.eval):= .cons hv (kP ok.gl ht has)
       have jP:∀n start,sO E φ w (.fn f) (v'::c.args.toList.map a.eval) n start→(execOp a.eval ⟨dst,.call c,ty,pos,after,guard⟩).run E.P w= .ok n w:=fun n start hp=>by
        cases hp with
        | fn f yk hr=>
        have e1:(#[v']++(c.args.map a.eval))=(v'::c.args.toList.map a.eval).toArray:=by rw[map_toArray];simp
        have e2:(#[Value.iface t v']++c.args.map a.eval).extract 1 (#[Value.iface t v']++c.args.map a.eval).size=c.args.map a.eval:=by
         apply Array.ext';simp
         exact List.take_of_length_le (by simp)
        have e3:(#[Value.iface t v']++c.args.map a.eval)[0]? =some (Value.iface t v'):=by rw[Array.getElem?_append];rfl
        simp only[execOp,resolve,Lg,oD,Sem.run_bind,Sem.run_pure,Result.andThen_ok,invoke,e3,e2,callMethod,run_program,QD hm,e1,hr]
       split
       · rename_i v h' ajj
         exact .enter v h' (.fn f) _ _ (eK.ret (.fn f) _ h v h' ajj) trivial hl jP
       · rename_i v h' ajj
         exact .afG v h' (.fn f) _ _ (eK.panic (.fn f) _ h v h' ajj) trivial hl jP
       · exact .fail _ _
     · exact .fail _ _
   · exact .fail _ _
  · exact .fail _ _
 · exact .fail _ _
structure am3 (E:Env) (φ:Ph) (h:az) (w:World) (b:Frame) (K:Bool→List Frame) (ops:Array Oper) (rest:List Nat) (k:List Item) (m:Machine) (e:oP) (s':St):Prop where
 is:∃φ' w' a' e',ExR φ' e e'∧SR φ' s'.ts s'.ds a'∧OK E φ' s'.h w'∧Fr φ h w φ' s'.h w'∧ru φ' b K s'.rc∧am1 E.P m b ops rest k (cur K s'.rc) e' a' w'
set_option maxHeartbeats 1000000 in
theorem Mg (hE:ml E) {call:b8} (eK:kS E call) {ops:Array Oper} {i:Nat} {rest:List Nat} {o:Oper} (ho:ops[i]? =some o) {s s':St} {e:oP} (uU:opA E call s o= .ok e s')
 {φ:Ph} {a:Act} {w:World} {b:Frame} {k:List Item} {K:Bool→List Frame} (hs:SR φ s.ts s.ds a) (ok:OK E φ s.h w) (jK:ru φ b K s.rc) (hw:Region.wanted o (yielded ops a.tmps)=true):
 am3 E φ s.h w b K ops rest k (lone (b.atR a (.inRegion ops (i::rest)::k)) (cur K s.rc) w) e s':=by
 have oh:(s.rc.sM=false∨∀c,o.op≠ .defer c)→o.semAt b.roundOf a.eval=execOp a.eval o:=fun h=>v_ jK h _
 unfold opA at uU
 split at uU
 · rename_i v hp
   have tv:s.rc.sM=false∨∀c,o.op≠ .defer c:= .inr (fun c e=>by rw[e] at hp;simp [dY] at hp)
   simp at uU;obtain ⟨rfl,rfl⟩:=uU
   obtain ⟨v',hv,hr⟩:=F_ hE.ext ok.gl hs.ts hp
   exact ⟨φ,w,_,_,.normal,hs.put o.dst hv,ok,Fr.refl _ _ _,jK,.one (qy (oh tv) ho hw (hr w))⟩
 · split at uU
   · rename_i v hp
     have tv:s.rc.sM=false∨∀c,o.op≠ .defer c:= .inr (fun c e=>by rw[e] at hp;simp [kF] at hp)
     simp at uU;obtain ⟨rfl,rfl⟩:=uU
     obtain ⟨v',hv,hr⟩:=Gc ok.gl ok hs.ts hp
     exact ⟨φ,w,_,_,.normal,hs.put o.dst hv,ok,Fr.refl _ _ _,jK,.one (qy (oh tv) ho hw (hr w rfl))⟩
   · split at uU
     · rename_i obj mk hp
       have tv:s.rc.sM=false∨∀c,o.op≠ .defer c:= .inr (fun c e=>by rw[e] at hp;simp [jt] at hp)
       split at uU
       · rename_i h' hn
         simp at uU;obtain ⟨rfl,rfl⟩:=uU
         obtain ⟨O,mk',QE,hr⟩:=Cr ok.gl hs.ts hp
         obtain ⟨qk,sv,hle⟩:=ok.fresh (w':=w.alloc O) hn ⟨w.heap.size,0,0⟩ (by
          have:=QE.obj (φ.add s.h.nx ⟨w.heap.size,0,0⟩) w.heap.size (fun i m hm=>by
           unfold Ph.add;split
           · rename_i e;subst e;exact absurd (ok.EF _ _ hm) (Nat.lt_irrefl _)
           · exact hm)
          rw[show (w.alloc O).heap=w.heap.push O from rfl]
          simpa using this)
          (fun c gX hc=>by rw[show (w.alloc O).heap=w.heap.push O from rfl,Array.getElem?_push,if_neg (by simpa using gX)]) (by simp) (Nat.le_refl _) rfl rfl rfl
         have hv:=QE.val (φ.add s.h.nx ⟨w.heap.size,0,0⟩) s.h.nx w.heap.size hle (by simp [Ph.add])
         exact ⟨_,_,_,_,.normal,(hs.mono hle).put o.dst hv,qk,sv,jK.mono hle,.one (qy (oh tv) ho hw (hr w))⟩
       · simp at uU
     · have yq:=Bc hE eK (rc:=s.rc) (o:=o) hs.ts ok
       have tv:(∃d,j4 E call s.ts s.h s.rc o= .defer d)∨(∃yd q,j4 E call s.ts s.h s.rc o= .fail yd q)∨(s.rc.sM=false∨∀c,o.op≠ .defer c):=by
        by_cases hd:∃c,o.op= .defer c
        · obtain ⟨c,hd⟩:=hd
          unfold j4
          simp only[hd]
          split
          · exact .inr (.inl ⟨_,_,rfl⟩)
          · exact .inl ⟨_,rfl⟩
          · exact .inr (.inl ⟨_,_,rfl⟩)
        · exact .inr (.inr (.inr (fun c e=>hd ⟨c,e⟩)))
       generalize j4 E call s.ts s.h s.rc o=eo at uU yq tv
       cases yq with
       | val v h' φ' w' v' hv Ag fr run=>
        have tv:=(tv.resolve_left (by simp)).resolve_left (by simp)
        simp at uU;obtain ⟨rfl,rfl⟩:=uU
        exact ⟨φ',w',_,_,.normal,(hs.mono fr.ext).put o.dst hv,Ag,fr,jK.mono fr.ext,.one (qy (oh tv) ho hw run)⟩
       | skip h' φ' w' Ag fr run=>
        have tv:=(tv.resolve_left (by simp)).resolve_left (by simp)
        simp at uU;obtain ⟨rfl,rfl⟩:=uU
        exact ⟨φ',w',_,_,.normal,(hs.mono fr.ext).put o.dst (VR.undef φ'),Ag,fr,jK.mono fr.ext,.one (QC (oh tv) ho hw run)⟩
       | enter v h' F args all hr hf hl run=>
        have tv:=(tv.resolve_left (by simp)).resolve_left (by simp)
        simp at uU;obtain ⟨rfl,rfl⟩:=uU
        obtain ⟨n,start,hp,lN⟩:=hr φ w all ok hf hl
        obtain ⟨φ',w',v',hv,Ag,fr,lW⟩:=lN (b.atR a (.inRegion ops (i::rest)::k)) (cur K s.rc)
        rw[zH ho] at lW
        exact ⟨φ',w',_,_,.normal,(hs.mono fr.ext).put o.dst hv,Ag,fr,jK.mono fr.ext,.head (go_enter (oh tv) ho hw hp (run n start hp)) lW⟩
       | afG v h' F args all hr hf hl run=>
        have tv:=(tv.resolve_left (by simp)).resolve_left (by simp)
        simp at uU;obtain ⟨rfl,rfl⟩:=uU
        obtain ⟨n,start,hp,lN⟩:=hr φ w all ok hf hl
        obtain ⟨φ',w',v',hv,Ag,fr,lW⟩:=lN (b.atR a (.inRegion ops (i::rest)::k)) (cur K s.rc)
        rw[Frame.raise_atR] at lW
        exact ⟨φ',w',a,_,.panic v v' hv,hs.mono fr.ext,Ag,fr,jK.mono fr.ext,.inRegion ops (i::rest)::k,.head (go_enter (oh tv) ho hw hp (run n start hp)) lW⟩
       | defer d d' K6 hd run=>
        simp at uU;obtain ⟨rfl,rfl⟩:=uU
        have h1:SR φ s.ts (d::s.ds) {a with defers:=d'::a.defers}:=⟨hs.ts,hd,hs.ds⟩
        exact ⟨φ,w,_,_,.normal,h1.put o.dst (VR.undef φ),ok,Fr.refl _ _ _,jK,.one (Yn (v_ jK (.inl K6) _) ho hw run)⟩
       | panic v v' hv run=>
        have tv:=(tv.resolve_left (by simp)).resolve_left (by simp)
        simp at uU;obtain ⟨rfl,rfl⟩:=uU
        exact ⟨φ,w,a,_,.panic v v' hv,hs,ok,Fr.refl _ _ _,jK,_,.one (aaS (oh tv) ho hw run)⟩
       | L8 v aq1 run=>
        simp at uU;obtain ⟨rfl,rfl⟩:=uU
        rw[aq1] at jK ⊢
        have aaU:=jK.plain rfl
        have am4:=v_ jK (o:=o) (.inl rfl) a.eval
        obtain ⟨_,⟨v',hv,htr⟩,am5⟩:=jK
        exact ⟨φ,w,_,_,.normal,hs.put o.dst hv,ok,Fr.refl _ _ _,⟨aaU,am5⟩,.one (TN aaU am4 ho hw run (htr _ rfl))⟩
       | aaT gX K6 run=>
        simp at uU;obtain ⟨rfl,rfl⟩:=uU
        have K5:∀fr:Frame,fr.kind=b.kind→tryRecover fr (cur K s.rc)=none:=by
         cases NV:s.rc with
         | no=>rw[NV] at jK;exact jK.2
         | mJ v=>exact absurd NV (gX v)
         | done=>rw[NV] at jK;exact jK.2
         | bar l=>rw[NV] at K6;simp [RC.sM] at K6
        exact ⟨φ,w,_,_,.normal,hs.put o.dst .nilIface,ok,Fr.refl _ _ _,jK,.one (Ay (jK.plain K6) (v_ jK (.inl K6) _) ho hw run (K5 _ rfl))⟩
       | fail yd q=>simp at uU
end Go.Ab
end
