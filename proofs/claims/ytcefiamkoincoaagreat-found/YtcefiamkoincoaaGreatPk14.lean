/- a part of the proof in YtcefiamkoincoaaGreatFoundProof -/
import Derived.Deep.Cut
import Derived.Deep.RegionHeld3
import Derived.Deep.CutRange
import Derived.Maps.AppendAt
import Derived.Test.YtcefiamkoincoaaGreatPk13
set_option maxRecDepth 100000
set_option maxHeartbeats 40000000
set_option linter.unusedVariables false
set_option linter.unusedSimpArgs false
namespace Go.Proofs.YtcefiamkoincoaaGreat
open Go.RowKit
def Pk.owner (n:Int):List (List (Int × Int))→Int→Int→Int × Int
 | [],_,_=>(-1,0)
 | own :: r,c,f=>if f≤n∧n - f < (own.length:Int) then (c,n - f) else Pk.owner n r (c+1) (f+(own.length:Int))
def Pk.own (fs:List (List (Int × Int))) (c:Int):List (Int × Int):=if c < 0 then [] else fs.getD c.toNat []
def Pk.field (fs:List (List (Int × Int))) (n:Int):Int × (Int × Int) :=
 if (Pk.owner n fs 0 0).2 < 0 then (-1,(0,0)) else if ((Pk.own fs (Pk.owner n fs 0 0).1).length:Int)≤(Pk.owner n fs 0 0).2 then (-1,(0,0))
 else ((Pk.owner n fs 0 0).1,(Pk.own fs (Pk.owner n fs 0 0).1).getD (Pk.owner n fs 0 0).2.toNat (0,0))
def Pk.fieldsTo (T:List Int) (fs:List (List (Int × Int))) (c:Int):Nat→List (Int × Int)
 | 0=>[]
 | d+1=>Pk.fieldsTo T fs c d ++ (if Tr.within T c (d:Int)=true then fs.getD d [] else [])
def Pk.fieldsOf (T:List Int) (fs:List (List (Int × Int))) (c:Int):List (Int × Int):=Pk.fieldsTo T fs c fs.length
theorem Rt {T:List Int} (hT:Tr.Ok T) {a b:Int} (ha:0≤a) (hl:a < (T.length:Int)) (hb:0≤b):Tr.within T a b=Tr.rbel T a b:=by
 refine Bool.eq_iff_iff.2 ?_;rw [Tr.rbel_iff hT ha hl hb];unfold Tr.within Tr.At;simp only [Bool.or_eq_true,beq_iff_eq];exact ⟨fun h=>h.imp Eq.symm id,fun h=>h.imp Eq.symm id⟩
theorem Uo {T:List Int} (hT:Tr.Ok T) {a b:Int} (ha:0≤a) (hl:a < (T.length:Int)) (hb:a < b):Tr.within T a b=false:=by
 unfold Tr.within;cases h:Tr.below T a b
 ·simp;omega
 ·have:=Tr.below_lt hT (by omega) hl h;omega
theorem Ka {T:List Int} (hT:Tr.Ok T) (cs:List Rd.Cls) {c:Int} (h0:0≤c) (hl:c < (T.length:Int)):∀ d:Nat,Pk.fieldsTo T (cs.map Rd.Cls.fields) c d=Rf.allTo T cs c d
 | 0=>rfl
 | d+1=>by
  rw [Pk.fieldsTo,Rf.allTo,Ka hT cs h0 hl d,Rt hT h0 hl (by omega)]
  congr 2
  rw [List.getD_eq_getElem?_getD,List.getD_eq_getElem?_getD,List.getElem?_map];cases cs[d]? <;> rfl
theorem Kb {T:List Int} (hT:Tr.Ok T) (fs:List (List (Int × Int))) {c:Nat} (hl:(c:Int) < (T.length:Int)):∀ d:Nat,Pk.fieldsTo T fs (c:Int) (c+1+d)=Pk.fieldsTo T fs (c:Int) (c+1)
 | 0=>rfl
 | d+1=>by
  rw [← Nat.add_assoc,Pk.fieldsTo,Kb hT fs hl d,Uo hT (by omega) hl (by omega)]
  simp
theorem Qm {T:List Int} (hT:Tr.Ok T) (cs:List Rd.Cls) (hcs:cs.length=T.length) {c:Nat} (hl:c < T.length):Pk.fieldsOf T (cs.map Rd.Cls.fields) (c:Int)=Rf.all T cs c:=by
 unfold Pk.fieldsOf Rf.all;rw [← Ka hT cs (by omega) (by omega),List.length_map];have:=Kb hT (cs.map Rd.Cls.fields) (c:=c) (by omega) (cs.length - (c+1));rw [show c+1+(cs.length - (c+1))=cs.length by omega] at this;exact this
theorem Kn (c base:Int) (own:List (Int × Int)):∀ (k i:Nat),i < k→(Rf.ownTo c base own k).getD i ⟨0,0,(0,0)⟩=⟨c,base+(i:Int),own.getD i (0,0)⟩
 | 0,_,h=>by omega
 | k+1,i,h=>by
  rw [Rf.ownTo];by_cases hi:i < k
  ·rw [List.getD_eq_getElem?_getD,List.getElem?_append_left (by rw [Dm];exact hi),← List.getD_eq_getElem?_getD];exact Kn c base own k i hi
  ·have:i=k:=by omega
   subst this;rw [List.getD_eq_getElem?_getD,List.getElem?_append_right (by rw [Dm];omega),Dm]
   simp
def Rf.fieldsAt (T:List Int) (cs:List Rd.Cls):Nat→Nat→List Rf.Fld
 | _,0=>[]
 | c,j+1=>Rf.ownOf T cs c ++ Rf.fieldsAt T cs (c+1) j
theorem Ih (T:List Int) (cs:List Rd.Cls):∀ (j c:Nat),Rf.fieldsAt T cs c (j+1)=Rf.fieldsAt T cs c j ++ Rf.ownOf T cs (c+j)
 | 0,c=>by simp [Rf.fieldsAt]
 | j+1,c=>by
  rw [Rf.fieldsAt,Ih T cs j (c+1),Rf.fieldsAt,List.append_assoc,show c+1+j=c+(j+1) by omega]
theorem J2 (T:List Int) (cs:List Rd.Cls):∀ j:Nat,Rf.fieldsTo T cs j=Rf.fieldsAt T cs 7 j
 | 0=>rfl
 | j+1=>by rw [Rf.fieldsTo,J2 T cs j,Ih]
theorem Pb (T:List Int) (cs:List Rd.Cls) (n:Nat):∀ (j c f:Nat),c+j=cs.length→f≤n→n - f < (Rf.fieldsAt T cs c j).length →
  ∃ q:Nat,c≤q∧q < cs.length∧∃ i:Nat,i < (cs.getD q ⟨0,[]⟩).fields.length∧Pk.owner (n:Int) ((cs.drop c).map Rd.Cls.fields) (c:Int) (f:Int)=((q:Int),(i:Int)) ∧
   ((Rf.fieldsAt T cs c j).getD (n - f) ⟨0,0,(0,0)⟩).owner=(q:Int)∧((Rf.fieldsAt T cs c j).getD (n - f) ⟨0,0,(0,0)⟩).t=(cs.getD q ⟨0,[]⟩).fields.getD i (0,0)
 | 0,c,f,hc,hf,h=>by simp [Rf.fieldsAt] at h
 | j+1,c,f,hc,hf,h=>by
  have hcl:c < cs.length:=by omega
  rw [List.drop_eq_getElem_cons hcl,List.map_cons,Pk.owner];have hg:cs.getD c ⟨0,[]⟩=cs[c]:=by rw [List.getD_eq_getElem?_getD,List.getElem?_eq_getElem hcl];rfl
  have hol:(Rf.ownOf T cs c).length=cs[c].fields.length:=by rw [Rf.ownOf,Dm,hg]
  rw [Rf.fieldsAt] at h ⊢;by_cases hin:n - f < cs[c].fields.length
  ·refine ⟨c,Nat.le_refl _,hcl,n - f,by rw [hg];exact hin,?_,?_,?_⟩
   ·rw [if_pos (by omega)]
    congr 1;omega
   ·rw [List.getD_eq_getElem?_getD,List.getElem?_append_left (by rw [hol];exact hin),← List.getD_eq_getElem?_getD,Rf.ownOf,Kn _ _ _ _ _ (by rw [hg];exact hin)]
   ·rw [List.getD_eq_getElem?_getD,List.getElem?_append_left (by rw [hol];exact hin),← List.getD_eq_getElem?_getD,Rf.ownOf,Kn _ _ _ _ _ (by rw [hg];exact hin)]
  ·rw [if_neg (by omega)];obtain ⟨q,h1,h2,i,h3,h4,h5,h6⟩:=Pb T cs n j (c+1) (f+cs[c].fields.length) (by omega) (by omega) (by rw [List.length_append,hol] at h;omega);refine ⟨q,by omega,h2,i,h3,?_,?_,?_⟩
   ·rw [← h4];push_cast;rfl
   ·rw [List.getD_eq_getElem?_getD,List.getElem?_append_right (by rw [hol];omega),← List.getD_eq_getElem?_getD,hol,← h5];congr 2;omega
   ·rw [List.getD_eq_getElem?_getD,List.getElem?_append_right (by rw [hol];omega),← List.getD_eq_getElem?_getD,hol,← h6];congr 2;omega
theorem Nf (n:Int) (r:List (List (Int × Int))) (f:Int):∀ (k:Nat) (c:Int),Pk.owner n (List.replicate k [] ++ r) c f=Pk.owner n r (c+(k:Int)) f
 | 0,c=>by simp
 | k+1,c=>by
  rw [List.replicate_succ,List.cons_append,Pk.owner,if_neg (by simp)];simp only [List.length_nil];rw [show f+((0:Nat):Int)=f by omega,Nf n r f k (c+1)]
  congr 1;omega
theorem Kg (T:List Int) (cs:List Rd.Cls) (h7:7≤cs.length) (hg:∀ i,i < 7→(cs.getD i ⟨0,[]⟩).fields=[]) (n:Nat) (hn:n < (Rf.fieldsTo T cs (cs.length - 7)).length) :
  Pk.field (cs.map Rd.Cls.fields) (n:Int)=(((Rf.fieldsTo T cs (cs.length - 7)).getD n ⟨0,0,(0,0)⟩).owner,((Rf.fieldsTo T cs (cs.length - 7)).getD n ⟨0,0,(0,0)⟩).t):=by
 rw [J2] at hn ⊢;obtain ⟨q,h1,h2,i,h3,h4,h5,h6⟩:=Pb T cs n (cs.length - 7) 7 0 (by omega) (by omega) (by simpa using hn);have e:cs.map Rd.Cls.fields=List.replicate 7 [] ++ (cs.drop 7).map Rd.Cls.fields:=by
  conv=>lhs;rw [← List.take_append_drop 7 cs,List.map_append]
  congr 1
  apply List.ext_getElem
  ·simp;omega
  ·intro i hi hi';have hi2:i < 7:=by simpa using hi'
   have:=hg i hi2;rw [List.getD_eq_getElem?_getD,List.getElem?_eq_getElem (by omega)] at this;rw [List.getElem_map,List.getElem_take,List.getElem_replicate]
   simpa using this
 have ho:Pk.owner (n:Int) (cs.map Rd.Cls.fields) 0 0=((q:Int),(i:Int)):=by
  rw [e,Nf];exact h4
 have hown:Pk.own (cs.map Rd.Cls.fields) (q:Int)=(cs.getD q ⟨0,[]⟩).fields:=by
  unfold Pk.own;rw [if_neg (by omega),List.getD_eq_getElem?_getD,List.getElem?_map,List.getD_eq_getElem?_getD,Int.toNat_natCast];cases cs[q]? <;> rfl
 unfold Pk.field;rw [ho];simp only;rw [if_neg (by omega),hown,if_neg (by omega),Int.toNat_natCast];simp only [Nat.sub_zero] at h5 h6;rw [h5,h6]
def Ck.tyOk (T:List Int) (isN:Int→Prop) (t:Int × Int):Prop:=Tr.Arg T t.1 t.2∧(t.1=4→isN t.2)
structure Ck.Inv (T:List Int) (lo:Nat) (hi:Int) (isN:Int→Prop) (x:Ck.Fr):Prop where
 lo:x.locals.length=lo
 hi:(x.stack.length:Int)≤hi
 tl:∀ t∈x.locals,Ck.tyOk T isN t
 ts:∀ t∈x.stack,Ck.tyOk T isN t
theorem Kj (T:List Int) (isN:Int→Prop):Ck.tyOk T isN (0,0):=⟨.inl ⟨rfl,rfl⟩,fun h=>absurd h (by decide)⟩
theorem Gy {T:List Int}{isN:Int→Prop}{a b:Int × Int}{l:List (Int × Int)} (hb:Ck.tyOk T isN b) (h:∀ t∈l,Ck.tyOk T isN t):∀ t∈Ck.turned a b l,Ck.tyOk T isN t:=by
 intro t ht;unfold Ck.turned at ht;obtain ⟨y,hy,rfl⟩:=List.mem_map.1 ht
 split
 ·exact hb
 ·exact h y hy
theorem Cf {α:Type}{l:List α}{i:Nat}{d:α} (h:i < l.length):l.getD i d∈l:=by
 rw [List.getD_eq_getElem?_getD,List.getElem?_eq_getElem h];exact List.getElem_mem h
theorem Th {α:Type}{l:List α}{i:Nat}{d t:α} (h:t∈l.set i d):t∈l∨t=d:=by
 rcases List.mem_or_eq_of_mem_set h with h | h
 ·exact .inl h
 ·exact .inr h
theorem X3 {T:List Int}{lo:Nat}{hi:Int}{isN:Int→Prop} (tk lv want:List (Int × Int)) (arg:Int→Int) (p op n:Int) (x y:Ck.Fr) (hx:Ck.Inv T lo hi isN x)
  (hlv:∀ t∈lv,Ck.tyOk T isN t) (hn:op=2→0≤n∧n < (lo:Int)) (hnew:op=15→Ck.tyOk T isN (4,p)) (hset:op=16→0≤n∧n < (T.length:Int))
  (h:Ck.rule hi (Ck.movedL T tk lv want arg p op n x)=some y):Ck.Inv T lo hi isN y:=by
 unfold Ck.rule at h;cases hm:Ck.movedL T tk lv want arg p op n x with
 | none=>rw [hm] at h;cases h
 | some z =>
  rw [hm] at h;simp only [Option.bind_some] at h;by_cases hz:(z.stack.length:Int)≤hi
  ·rw [if_pos hz] at h;obtain rfl:=Option.some.inj h
   suffices hh:z.locals.length=lo∧(∀ t∈z.locals,Ck.tyOk T isN t)∧(∀ t∈z.stack,Ck.tyOk T isN t) from ⟨hh.1,hz,hh.2.1,hh.2.2⟩
   have htk:∀ k,∀ t∈x.stack.take k,Ck.tyOk T isN t:=fun k t ht=>hx.ts t (List.mem_of_mem_take ht);unfold Ck.movedL at hm;by_cases h2:op=2
   ·rw [if_pos h2] at hm
    split at hm
    ·cases hm
    ·obtain rfl:=Option.some.inj hm;refine ⟨hx.lo,hx.tl,fun t ht=>?_⟩;rcases List.mem_append.1 ht with ht | ht
     ·exact hx.ts t ht
     ·obtain rfl:=List.mem_singleton.1 ht;have:=hn h2;exact hx.tl _ (Cf (by have:=hx.lo;omega))
   rw [if_neg h2] at hm;by_cases h3:op=3
   ·rw [if_pos h3] at hm
    split at hm
    ·cases hm
    ·rename_i hs;obtain rfl:=Option.some.inj hm;refine ⟨by simpa using hx.lo,fun t ht=>?_,fun t ht=>htk _ t ht⟩;rcases Th ht with ht | rfl
     ·exact hx.tl t ht
     ·exact hx.ts _ (Cf (by omega))
   rw [if_neg h3] at hm;by_cases h4:op=4
   ·rw [if_pos h4] at hm
    split at hm
    ·cases hm
    ·obtain rfl:=Option.some.inj hm;exact ⟨hx.lo,hx.tl,fun t ht=>htk _ t ht⟩
   rw [if_neg h4] at hm;by_cases h5:op=5
   ·rw [if_pos h5] at hm
    split at hm
    ·cases hm
    ·obtain rfl:=Option.some.inj hm;refine ⟨hx.lo,hx.tl,fun t ht=>?_⟩;rcases List.mem_append.1 ht with ht | ht
     ·exact hx.ts t ht
     ·exact hx.ts t (List.mem_of_mem_drop ht)
   rw [if_neg h5] at hm;by_cases h6:op=6
   ·rw [if_pos h6] at hm
    split at hm
    ·cases hm
    ·rename_i hs;obtain rfl:=Option.some.inj hm;refine ⟨hx.lo,hx.tl,fun t ht=>?_⟩;rcases List.mem_append.1 ht with ht | ht
     ·exact htk _ t ht
     ·simp only [List.mem_cons,List.not_mem_nil,or_false] at ht;rcases ht with rfl | rfl
      ·exact hx.ts _ (Cf (by omega))
      ·exact hx.ts _ (Cf (by omega))
   rw [if_neg h6] at hm;by_cases h15:op=15
   ·rw [if_pos h15] at hm;obtain rfl:=Option.some.inj hm;refine ⟨by rw [Bs];exact hx.lo,Gy (Kj T isN) hx.tl,fun t ht=>?_⟩;rcases List.mem_append.1 ht with ht | ht
    ·exact Gy (Kj T isN) hx.ts t ht
    ·obtain rfl:=List.mem_singleton.1 ht;exact hnew h15
   rw [if_neg h15] at hm;by_cases h16:op=16
   ·rw [if_pos h16] at hm;have h3n:Ck.tyOk T isN (3,n):=⟨.inr (.inr (.inr (.inl ⟨rfl,hset h16⟩))),fun h=>absurd h (by simp)⟩;unfold Ck.set at hm
    split at hm
    ·cases hm
    ·split at hm
     ·cases hm
     ·split at hm
      ·cases hm
      ·split at hm
       ·cases hm
       ·obtain rfl:=Option.some.inj hm;exact ⟨by rw [Bs];exact hx.lo,Gy h3n hx.tl,Gy h3n (htk _)⟩
   rw [if_neg h16] at hm
   split at hm
   ·cases hm
   ·obtain rfl:=Option.some.inj hm;refine ⟨hx.lo,hx.tl,fun t ht=>?_⟩;rcases List.mem_append.1 ht with ht | ht
    ·exact htk _ t ht
    ·exact hlv t ht
  ·rw [if_neg hz] at h;cases h
def Ck.step (mp:Nat→Option Ck.Fr) (rl:Nat→Ck.Fr→Option Ck.Fr) (go:Nat→Bool) (p:Nat) (o:Option Ck.Fr):Option Ck.Fr :=
 ((mp p).or o).bind fun x=>(rl p x).bind fun z=>if go p=true then some z else none
def Ck.ahead (mp:Nat→Option Ck.Fr) (rl:Nat→Ck.Fr→Option Ck.Fr) (go:Nat→Bool) (q:Nat):List Nat→Option Ck.Fr→Option Ck.Fr
 | [],o=>o
 | p :: r,o=>if q < p then o else if p=q then (mp p).or o else Ck.ahead mp rl go q r (Ck.step mp rl go p o)
def Ck.lookAll (ah:Nat→Option Ck.Fr) (lk:Nat→Ck.Fr→Int):List Nat→Int × Int
 | []=>(0,0)
 | p :: r=>match ah p with
  | none=>Ck.lookAll ah lk r
  | some x=>if lk p x ≠ 0 then (lk p x,(p:Int)) else Ck.lookAll ah lk r
def Ck.pass (mp:Nat→Option Ck.Fr) (rl:Nat→Ck.Fr→Option Ck.Fr) (go:Nat→Bool) (lk:Nat→Ck.Fr→Int):List Nat→Option Ck.Fr→Int × Int
 | [],_=>(0,0)
 | p :: r,o=>match (mp p).or o with
  | none=>Ck.pass mp rl go lk r none
  | some x=>if lk p x ≠ 0 then (lk p x,(p:Int)) else Ck.pass mp rl go lk r (Ck.step mp rl go p o)
theorem Iy (mp:Nat→Option Ck.Fr) (rl:Nat→Ck.Fr→Option Ck.Fr) (go:Nat→Bool) (q:Nat) (r:List Nat):∀ (d:List Nat) (o:Option Ck.Fr),(∀ p∈d,p < q) →
  Ck.ahead mp rl go q (d ++ q :: r) o=(mp q).or (d.foldl (fun o p=>Ck.step mp rl go p o) o)
 | [],o,_=>by simp [Ck.ahead]
 | p :: d,o,h=>by
  have hp:=h p (by simp);rw [List.cons_append,Ck.ahead,if_neg (by omega),if_neg (by omega),Iy mp rl go q r d _ (fun x hx=>h x (by simp [hx]))];rfl
theorem Is (mp:Nat→Option Ck.Fr) (rl:Nat→Ck.Fr→Option Ck.Fr) (go:Nat→Bool) (lk:Nat→Ck.Fr→Int) (x0:Option Ck.Fr):∀ (r d:List Nat),(d ++ r).Pairwise (· < ·) →
  Ck.lookAll (fun q=>Ck.ahead mp rl go q (d ++ r) x0) lk r=Ck.pass mp rl go lk r (d.foldl (fun o p=>Ck.step mp rl go p o) x0)
 | [],d,_=>by simp [Ck.lookAll,Ck.pass]
 | p :: r,d,h=>by
  have hd:∀ q∈d,q < p:=fun q hq=>(List.pairwise_append.1 h).2.2 q hq p (by simp);have ih:=Is mp rl go lk x0 r (d ++ [p]) (by simpa using h);rw [List.append_assoc,List.singleton_append,List.foldl_append] at ih;simp only [List.foldl_cons,List.foldl_nil] at ih;rw [Ck.lookAll,Ck.pass,Iy mp rl go p r d x0 hd,ih];generalize List.foldl (fun o p=>Ck.step mp rl go p o) x0 d=o;cases hh:(mp p).or o with
  | none =>
   have:Ck.step mp rl go p o=none:=by unfold Ck.step;rw [hh];rfl
   simp only [this]
  | some x=>rfl
def Ck.look (T:List Int) (mp:Int→Option Ck.Fr) (H:Int) (R:Option Ck.Fr) (op n nxt len:Int):Int :=
 if H ≠ 0 then H else if R.isSome=false then 10
 else if Ck.jumps op=true∧(mp n).isSome=false then 8
 else if Ck.jumps op=true∧Ck.frameFits T (Ck.orNone R) (Ck.orNone (mp n))=false then 9
 else if Ck.goes op=false then 0 else if len≤nxt then 11
 else if (mp nxt).isSome=true∧Ck.frameFits T (Ck.orNone R) (Ck.orNone (mp nxt))=false then 9 else 0
theorem Ar {w:World}{g i j:Nat}{u:Value} (h:j ≠ g):(w.setCell ⟨g,i,none⟩ u).heap[j]?=w.heap[j]?:=Below.heap_setCell _ _ _ _ (by simpa using h)
theorem D8 {w:World}{z:Nat}{x y:Value}{ty:TypeId} (h:w.heap[z]?=some (.cells #[x,y] ty (0,0))) (s t:Value):((w.setCell ⟨z,0,none⟩ s).setCell ⟨z,1,none⟩ t).heap[z]?=some (.cells #[s,t] ty (0,0)):=by
 have h1:(w.setCell ⟨z,0,none⟩ s).heap[z]?=some (.cells #[s,y] ty (0,0)):=by rw [Ai h];rfl
 rw [Ai h1];rfl
theorem Dh {w:World}{z j:Nat}{s t:Value} (h:j ≠ z):((w.setCell ⟨z,0,none⟩ s).setCell ⟨z,1,none⟩ t).heap[j]?=w.heap[j]?:=(Ar h).trans (Ar h)
theorem FrV.is.set2 {v:FrV}{x:Ck.Fr}{w:World}{z:Nat}{a1 a2:Option Addr}{n1 c1 n2 c2:Nat}{ty:TypeId} (h:v.is x w) (hz:w.heap[z]?=some (.cells #[.slice a1 n1 c1,.slice a2 n2 c2] ty (0,0))) (s t:Value):v.is x ((w.setCell ⟨z,0,none⟩ s).setCell ⟨z,1,none⟩ t):=⟨h.lo.set_frame hz s t,h.st.set_frame hz s t,h.hl,h.hs⟩
def Ck.checked (T:List Int) (m0:Option Ck.Fr) (x0:Ck.Fr) (ah:Nat→Option Ck.Fr) (lk:Nat→Ck.Fr→Int) (ps:List Nat):Int × Int :=
 if m0.isSome=true∧Ck.frameFits T x0 (Ck.orNone m0)=false then (9,0) else Ck.lookAll ah lk ps
variable {aa:Option Addr}{an ac:Nat}
def FldsIn (w:World) (b:Nat) (v:Value) (l:List (Value × List (Int × Int))):Prop:=w.ownsRow b 48 1 v l.length (l.map Prod.fst)∧∀ p∈l,TyR w p.1 p.2
theorem FldsIn.below {w w':World}{b:Nat}{v:Value}{l:List (Value × List (Int × Int))} (h:FldsIn w b v l) (hb:Below w.heap.size w w'):FldsIn w' b v l :=
 ⟨Au h.1 (Kp.of_below (e:=none) hb) (by decide),fun p hp=>(h.2 p hp).below hb⟩
theorem FldsIn.at {w:World}{b:Nat}{a:Option Addr}{n c:Nat}{l:List (Value × List (Int × Int))} (h:FldsIn w b (.slice a n c) l) {k:Nat} (hk:k < l.length) :
  ∃ g,a=some ⟨g,0,none⟩∧g < w.heap.size∧∃ xa xc,w.cell? ⟨g,k,none⟩=some (.slice xa l[k].2.length xc)∧TyR w (.slice xa l[k].2.length xc) l[k].2:=by
 obtain ⟨g,hg,hlt,_,hcell⟩:=Am h.1 (by omega);have ht:=h.2 l[k] (List.getElem_mem hk);obtain ⟨xa,xc,hv⟩:=ht.shape;refine ⟨g,hg,hlt,xa,xc,?_,hv ▸ ht⟩;rw [hcell k (by simpa using hk),List.getElem?_map,List.getElem?_eq_getElem hk,← hv];rfl
theorem Wa (l:List (Value × List (Int × Int))) (bb:Nat) (ya:Option Addr) (yc:Nat) (n:Int) (w:World) (hl:l.length≤1000) (hn:0≤n∧n≤100000) (hf:∀ p∈l,p.2.length≤1000) (hF:FldsIn w bb (.slice ya l.length yc) l) :
  Calls Tryz.prog 266 #[.agg #[.slice aa an ac,.slice ya l.length yc],.int .i64 n] w fun e w' =>
   e=.returned (.tuple #[.int .i64 (Pk.owner n (l.map Prod.snd) 0 0).1,.int .i64 (Pk.owner n (l.map Prod.snd) 0 0).2])∧Below w.heap.size w w':=by
 generalize hr:Pk.owner n (l.map Prod.snd) 0 0=r;have HR:Hid (Pk.owner n ((l.map Prod.snd).drop 0) ((0:Nat):Int) ((0:Nat):Int)=r):=hr;clear hr;have hB0:Below w.heap.size w (w.alloc (.cells #[.slice aa an ac,.slice ya l.length yc] 89)):=(Below.refl _ _).alloc (Nat.le_refl _) _;go_enter Tryz.func266,Tryz.ntmps266;go_wp2
 go_loopw [6,12] (fun f v wr=>∃ (k s:Nat),k≤l.length∧s≤1000 * k∧f=.int .i64 (s:Int)∧v=.int .i64 (k:Int)∧Hid (Pk.owner n ((l.map Prod.snd).drop k) (k:Int) (s:Int)=r)∧wr=w.alloc (.cells #[.slice aa an ac,.slice ya l.length yc] 89))
  (fun _ v _=>l.length - (intOf v).toNat)
 case atStart=>exact ⟨0,0,by omega,by omega,rfl,rfl,HR,rfl⟩
 case round =>
  clear HR;obtain ⟨k,s,hk,hs,rfl,rfl,HR,rfl⟩:=hrel;by_cases hkn:k < l.length
  ·obtain ⟨g,rfl,hglt,xa,xc,y0,-⟩:=(hF.below hB0).at hkn;have hd:(l.map Prod.snd).drop k=l[k].2 :: (l.map Prod.snd).drop (k+1):=by rw [List.drop_eq_getElem_cons (by simpa using hkn)];simp
   have hr:=Aa HR;have hfk:=hf l[k] (List.getElem_mem hkn);rw [hd,Pk.owner] at hr;generalize l[k].2=own at *;have kb:(k:Int) < (l.length:Int):=by omega
   clear HR hd;by_cases h1:(s:Int)≤n
   ·by_cases h2:n - (s:Int) < (own.length:Int)
    ·rw [if_pos ⟨h1,h2⟩] at hr;have HE:=Ac hr;clear hr;go_wp2;go_ret2;exact ⟨by rw [← Aa HE];rfl,hB0⟩
    ·rw [if_neg (by omega)] at hr;have HG:Hid (Pk.owner n ((l.map Prod.snd).drop (k+1)) ((k+1:Nat):Int) ((s+own.length:Nat):Int)=r):=by unfold Hid;rw [← hr];push_cast;rfl
     clear hr;go_wp2
     go_roundw
     case rel=>exact ⟨k+1,s+own.length,by omega,by omega,by go_num,by go_num,HG,trivial⟩
     case measure=>simp [intOf];omega
   ·rw [if_neg (by omega)] at hr;have HG:Hid (Pk.owner n ((l.map Prod.snd).drop (k+1)) ((k+1:Nat):Int) ((s+own.length:Nat):Int)=r):=by unfold Hid;rw [← hr];push_cast;rfl
    clear hr;go_wp2
    go_roundw
    case rel=>exact ⟨k+1,s+own.length,by omega,by omega,by go_num,by go_num,HG,trivial⟩
    case measure=>simp [intOf];omega
  ·have hr:=Aa HR;rw [List.drop_eq_nil_of_le (by simp;omega),Pk.owner] at hr;have HE:=Ac hr;have kb:¬ (k:Int) < (l.length:Int):=by omega
   clear hr HR;go_wp2;go_ret2;exact ⟨by rw [← Aa HE];rfl,hB0⟩
theorem Y6 (l:List (Value × List (Int × Int))) (bb:Nat) (ya:Option Addr) (yc:Nat) (c:Int) (w:World) (_hl:l.length≤1000) (hF:FldsIn w bb (.slice ya l.length yc) l) :
  Calls Tryz.prog 267 #[.agg #[.slice aa an ac,.slice ya l.length yc],.int .i64 c] w fun e w' =>
   ∃ xa xc,e=.returned (.slice xa (Pk.own (l.map Prod.snd) c).length xc)∧TyR w' (.slice xa (Pk.own (l.map Prod.snd) c).length xc) (Pk.own (l.map Prod.snd) c)∧Below w.heap.size w w':=by
 have hB0:Below w.heap.size w (w.alloc (.cells #[.slice aa an ac,.slice ya l.length yc] 89)):=(Below.refl _ _).alloc (Nat.le_refl _) _;unfold Pk.own;by_cases h1:c < 0
 ·rw [if_pos h1];go_enter Tryz.func267,Tryz.ntmps267;go_wp2;go_ret;exact ⟨none,0,rfl,TyR.nil _,hB0⟩
 ·rw [if_neg h1];by_cases h2:(l.length:Int)≤c
  ·have e:(l.map Prod.snd).getD c.toNat []=[]:=by rw [List.getD_eq_getElem?_getD,List.getElem?_eq_none (by simp;omega)];rfl
   rw [e];go_enter Tryz.func267,Tryz.ntmps267;go_wp2;go_ret;exact ⟨none,0,rfl,TyR.nil _,hB0⟩
  ·obtain ⟨q,rfl⟩:=Int.eq_ofNat_of_zero_le (show 0≤c by omega);have hq:q < l.length:=by omega
   obtain ⟨g,rfl,hglt,xa,xc,y0,ht⟩:=(hF.below hB0).at hq;have e:(l.map Prod.snd).getD ((q:Nat):Int).toNat []=l[q].2:=by simp [List.getD_eq_getElem?_getD,hq]
   rw [e];generalize l[q].2=own at *;have kb:(q:Int) < (l.length:Int):=by omega
   clear e;go_enter Tryz.func267,Tryz.ntmps267;go_wp2;go_ret;exact ⟨xa,xc,rfl,ht,hB0⟩
theorem Nj (l:List (Value × List (Int × Int))) (bb:Nat) (ya:Option Addr) (yc:Nat) (n:Int) (w:World) (hl:l.length≤1000) (hn:0≤n∧n≤100000) (hf:∀ p∈l,p.2.length≤1000) (hF:FldsIn w bb (.slice ya l.length yc) l) :
  Calls Tryz.prog 242 #[.agg #[.slice aa an ac,.slice ya l.length yc],.int .i64 n] w fun e w' =>
   e=.returned (.tuple #[.int .i64 (Pk.field (l.map Prod.snd) n).1,.agg #[.int .i64 (Pk.field (l.map Prod.snd) n).2.1,.int .i64 (Pk.field (l.map Prod.snd) n).2.2]])∧Below w.heap.size w w':=by
 have hO:=fun w' (h:Below w.heap.size w w')=>Wa (aa:=aa) (an:=an) (ac:=ac) l bb ya yc n w' hl hn hf (hF.below h);have hW:=fun c w' (h:Below w.heap.size w w')=>Y6 (aa:=aa) (an:=an) (ac:=ac) l bb ya yc c w' hl (hF.below h);unfold Pk.field;generalize Pk.owner n (l.map Prod.snd) 0 0=o at *;obtain ⟨o1,o2⟩:=o;have hW:=hW o1;simp only at hO hW ⊢;generalize Pk.own (l.map Prod.snd) o1=own at *;have HO:=Ac hO;have HW:=Ac hW;clear hO hW hF;have hB0:=Aj w (.cells #[.slice aa an ac,.slice ya l.length yc] 89) (.cells #[.int .i64 0,.int .i64 0] 39);have T0:=Ak w (.cells #[.slice aa an ac,.slice ya l.length yc] 89) (.cells #[.int .i64 0,.int .i64 0] 39);have R0:=Ah w (.cells #[.slice aa an ac,.slice ya l.length yc] 89) (.cells #[.int .i64 0,.int .i64 0] 39);generalize hA:(if o2 < 0 then ((-1:Int),((0:Int),(0:Int))) else if (own.length:Int)≤o2 then (-1,(0,0)) else (o1,own.getD o2.toNat (0,0)))=A
 by_cases h1:o2 < 0
 ·rw [if_pos h1] at hA;subst hA;go_enter Tryz.func242,Tryz.ntmps242;go_wp2_with fail
  refine (Aa HO _ hB0).mono ?_;rintro e w1 ⟨rfl,hb1⟩;have hB1:=QB hB0 hb1;have T1:=stay hb1 T0;have R1:=stay hb1 R0;obtain ⟨t0,t1⟩:=cl2 T1;simp at t0 t1;clear hb1 T0 R0;go_wp2_with fail
  refine (Aa HW _ hB1).mono ?_;rintro e w2 ⟨xa,xc,rfl,ht,hb2⟩;have hB2:=QB hB1 hb2;have R2:=stay hb2 R1;obtain ⟨r0,r1⟩:=cl2 R2;obtain ⟨q0,q1⟩:=fr2 R2;simp at r0 r1;clear hb2 T1 R1 t0 t1;go_wp2;refine bodyPost_ret (v:=.tuple #[.int .i64 (-1),.agg #[.int .i64 0,.int .i64 0]]) (by simp [results,Tryz.results242,go_sem,r0,r1]) rfl ?_;exact ⟨rfl,by repeat (first | refine Below.setCell ?_ (by simp) _ | exact hB2)⟩
 ·rw [if_neg h1] at hA;obtain ⟨q,rfl⟩:=Int.eq_ofNat_of_zero_le (show 0≤o2 by omega);by_cases h2:(own.length:Int)≤(q:Int)
  ·rw [if_pos h2] at hA;subst hA;go_enter Tryz.func242,Tryz.ntmps242;go_wp2_with fail
   refine (Aa HO _ hB0).mono ?_;rintro e w1 ⟨rfl,hb1⟩;have hB1:=QB hB0 hb1;have T1:=stay hb1 T0;have R1:=stay hb1 R0;obtain ⟨t0,t1⟩:=cl2 T1;simp at t0 t1;clear hb1 T0 R0;go_wp2_with fail
   refine (Aa HW _ hB1).mono ?_;rintro e w2 ⟨xa,xc,rfl,ht,hb2⟩;have hB2:=QB hB1 hb2;have R2:=stay hb2 R1;obtain ⟨r0,r1⟩:=cl2 R2;obtain ⟨q0,q1⟩:=fr2 R2;simp at r0 r1;clear hb2 T1 R1 t0 t1;go_wp2;refine bodyPost_ret (v:=.tuple #[.int .i64 (-1),.agg #[.int .i64 0,.int .i64 0]]) (by simp [results,Tryz.results242,go_sem,r0,r1]) rfl ?_;exact ⟨rfl,by repeat (first | refine Below.setCell ?_ (by simp) _ | exact hB2)⟩
  ·rw [if_neg h2] at hA;have hq:q < own.length:=by omega
   have e:own.getD ((q:Nat):Int).toNat (0,0)=own[q]:=by simp [List.getD_eq_getElem?_getD,hq]
   rw [e] at hA;subst hA;have kb:(q:Int) < (own.length:Int):=by omega
   clear e h1;go_enter Tryz.func242,Tryz.ntmps242;go_wp2_with fail
   refine (Aa HO _ hB0).mono ?_;rintro e w1 ⟨rfl,hb1⟩;have hB1:=QB hB0 hb1;have T1:=stay hb1 T0;have R1:=stay hb1 R0;obtain ⟨t0,t1⟩:=cl2 T1;simp at t0 t1;clear hb1 T0 R0;go_wp2_with fail
   refine (Aa HW _ hB1).mono ?_;rintro e w2 ⟨xa,xc,rfl,ht,hb2⟩;obtain ⟨g,o,rfl,hg,hat⟩:=ht.at (by omega);obtain ⟨y0,y1⟩:=hat q hq;have hB2:=QB hB1 hb2;have R2:=stay hb2 R1;obtain ⟨r0,r1⟩:=cl2 R2;obtain ⟨q0,q1⟩:=fr2 R2;simp at r0 r1;clear hb2 T1 R1 t0 t1 hat;go_wp2
   go_region
   all_goals
    go_wp2;refine bodyPost_ret (v:=.tuple #[.int .i64 o1,.agg #[.int .i64 own[q].1,.int .i64 own[q].2]]) (by simp [results,Tryz.results242,go_sem,r0,r1]) rfl ?_;exact ⟨rfl,by repeat (first | refine Below.drew ?_ | refine Below.setCell ?_ (by simp) _ | exact hB2)⟩
theorem Fv (T:List Int) (fs:List (List (Int × Int))) (c:Int) (hf:∀ p∈fs,p.length≤1000):∀ d:Nat,(Pk.fieldsTo T fs c d).length≤1000 * d
 | 0=>by simp [Pk.fieldsTo]
 | d+1=>by
  rw [Pk.fieldsTo,List.length_append];have ih:=Fv T fs c hf d;have:(fs.getD d []).length≤1000:=by
   rw [List.getD_eq_getElem?_getD];rcases h:fs[d]? with _ | x
   ·simp
   ·simp;exact hf x (List.mem_of_getElem? h)
  split
  ·omega
  ·rw [List.length_nil];omega
theorem Pv (T:List Int) (tg tc:Nat) (l:List (Value × List (Int × Int))) (bb:Nat) (ya:Option Addr) (yc:Nat) (c:Int) (w:World) (hl:l.length≤14) (hTl:T.length≤1000) (hf:∀ p∈l,p.2.length≤1000) (hT:TreeIn w tg T) (hF:FldsIn w bb (.slice ya l.length yc) l) :
  Calls Tryz.prog 239 #[.agg #[.slice (some ⟨tg,0,none⟩) T.length tc,.slice ya l.length yc],.int .i64 c] w fun e w' =>
   ∃ xa xc,e=.returned (.slice xa (Pk.fieldsOf T (l.map Prod.snd) c).length xc)∧TysAt w' w.heap.size (.slice xa (Pk.fieldsOf T (l.map Prod.snd) c).length xc) (Pk.fieldsOf T (l.map Prod.snd) c)∧Below w.heap.size w w':=by
 have hfl:∀ d,(Pk.fieldsTo T (l.map Prod.snd) c d).length≤1000 * d:=Fv T (l.map Prod.snd) c (fun p hp=>by obtain ⟨q,hq,rfl⟩:=List.mem_map.1 hp;exact hf q hq);have HN:∀ k,Pk.fieldsTo T (l.map Prod.snd) c (k+1)=Pk.fieldsTo T (l.map Prod.snd) c k ++ (if Tr.within T c (k:Int)=true then (l.map Prod.snd).getD k [] else []):=fun k=>rfl
 have H0:Pk.fieldsTo T (l.map Prod.snd) c 0=[]:=rfl;have HE:Hid (Pk.fieldsOf T (l.map Prod.snd) c=Pk.fieldsTo T (l.map Prod.snd) c l.length):=by unfold Hid Pk.fieldsOf;rw [List.length_map]
 rw [Aa HE];generalize Pk.fieldsTo T (l.map Prod.snd) c=FT at *;clear HE;have hB0:Below w.heap.size w (w.alloc (.cells #[.slice (some ⟨tg,0,none⟩) T.length tc,.slice ya l.length yc] 89)):=(Below.refl _ _).alloc (Nat.le_refl _) _;have T0:=Ad w (.cells #[.slice (some ⟨tg,0,none⟩) T.length tc,.slice ya l.length yc] 89);go_enter Tryz.func239,Tryz.ntmps239;go_wp2
 go_loopw [5,11] (fun u v wr=>∃ k:Nat,k≤l.length∧v=.int .i64 (k:Int)∧wr.ownsRow w.heap.size 39 2 u (FT k).length (Al (FT k))∧Below w.heap.size w wr ∧
   wr.heap[w.heap.size]?=some (.cells #[.slice (some ⟨tg,0,none⟩) T.length tc,.slice ya l.length yc] 89 (0,0)))
  (fun _ v _=>l.length - (intOf v).toNat)
 case atStart=>exact ⟨0,by omega,rfl,by rw [H0];exact World.ownsRow_nil _ _ _ _,hB0,T0⟩
 case round =>
  clear hB0 T0;obtain ⟨k,hk,rfl,hown,hB,hC⟩:=hrel;have hBs:=hB.size;obtain ⟨ua,uc,rfl⟩:=Ae hown;by_cases hkn:k < l.length
  ·have hFr:=hF.below hB;obtain ⟨g,rfl,hglt,xa,xc,y0,ht⟩:=hFr.at hkn;have hfk:=hf l[k] (List.getElem_mem hkn);have hn:=HN k;have e:(l.map Prod.snd).getD k []=l[k].2:=by simp [List.getD_eq_getElem?_getD,hkn]
   rw [e] at hn;generalize l[k].2=own at *;have hfk2:=hfl k;have kb:(k:Int) < (l.length:Int):=by omega
   obtain ⟨t0,t1⟩:=cl2 hC;simp at t0 t1;have hW:=Fz (ya:=some ⟨g,0,none⟩) (yn:=l.length) (yc:=yc) T tg tc c (k:Int) wr hTl (hT.below hB);cases hwi:Tr.within T c (k:Int) with
   | true =>
    rw [hwi] at hW hn;rw [if_pos rfl] at hn;have HW:=Ac hW;have HNN:=Ac hn;clear hW hn hwi e;go_wp2_with fail
    refine (Aa HW).mono ?_;rintro e w1 ⟨rfl,hb1⟩;have hB1:=hB.trans (hb1.mono hBs);have hs1:=hB1.size;have hC1:=stay hb1 hC;have hown1:=Au hown (Kp.of_below (e:=none) hb1) (by decide);have ht1:=ht.below hb1;clear hb1 hown ht;go_wp2_with (at_builtin;refine El rfl _ _ rfl w.heap.size _ (FT k) own xa own.length xc rfl hown1 rfl ht1 (by omega) (by omega) ?_)
    intro v' w2 hown2 hgrow;have hB2:=hB1.grown hgrow (by omega) (fun j hj=>(hown1.lt j hj).1);have hC2:=Kp.of_grown (b:=0) hgrow hown1 _ _ _ (Nat.zero_le _) hC1 (by decide);have hown3:w2.ownsRow w.heap.size 39 2 v' (FT (k+1)).length (Al (FT (k+1))):=by rw [Aa HNN,List.length_append];exact hown2
    clear hgrow hown1 hown2;go_wp2
    go_roundw
    case rel=>exact ⟨k+1,by omega,by go_num,hown3,hB2,hC2⟩
    case measure=>simp [intOf];omega
   | false =>
    rw [hwi] at hW hn;rw [if_neg (by simp),List.append_nil] at hn;have HW:=Ac hW;have HNN:=Ac hn;clear hW hn hwi e;go_wp2_with fail
    refine (Aa HW).mono ?_;rintro e w1 ⟨rfl,hb1⟩;have hB1:=hB.trans (hb1.mono hBs);have hC1:=stay hb1 hC;have hown1:w1.ownsRow w.heap.size 39 2 (.slice ua (FT k).length uc) (FT (k+1)).length (Al (FT (k+1))):=by rw [Aa HNN];exact Au hown (Kp.of_below (e:=none) hb1) (by decide)
    clear hb1;go_wp2
    go_roundw
    case rel=>exact ⟨k+1,by omega,by go_num,hown1,hB1,hC1⟩
    case measure=>simp [intOf];omega
  ·obtain rfl:k=l.length:=by omega
   have kb:¬ (l.length:Int) < (l.length:Int):=by omega
   go_wp2;go_ret;exact ⟨ua,uc,rfl,hown,hB⟩
structure BnC where
 tg:Nat
 tc:Nat
 ya:Option Addr
 yn:Nat
 yc:Nat
 hi:Int
 T:List Int
abbrev FrV.lv (v:FrV):Value:=.slice v.la v.ln v.lc
abbrev FrV.sv (v:FrV):Value:=.slice v.sa v.sn v.sc
def FrV.free (v:FrV) (k j:Nat):Prop:=j ≠ k∧v.lv.ownBlock ≠ some j∧v.sv.ownBlock ≠ some j
structure BnAt (w:World) (B k:Nat) (c:BnC) (v:FrV) (b:Pk.B):Prop where
 blk:w.heap[k]?=some (.cells #[.slice (some ⟨c.tg,0,none⟩) c.T.length c.tc,.slice c.ya c.yn c.yc,.slice v.la v.ln v.lc,.slice v.sa v.sn v.sc,.int .i64 c.hi,.bool b.br] 290 (0,0))
 lo:TysAt w B v.lv b.lo
 st:TysAt w B v.sv b.st
 nk:v.lv.ownBlock ≠ some k∧v.sv.ownBlock ≠ some k
 ns:∀ j,v.lv.ownBlock=some j→v.sv.ownBlock ≠ some j
 hB:B≤k
 tr:TreeIn w c.tg c.T
 tB:c.tg < B
 tl:c.T.length≤1000
 ll:b.lo.length≤1000
 sl:b.st.length≤5000
structure Bn (k:Nat) (w:World) (v:FrV) (w':World) (v':FrV):Prop where
 bel:Below 0 w w'
 blk:∀ j,j < w.heap.size→v.free k j→w'.heap[j]?=w.heap[j]?∧v'.free k j
theorem Bn.refl (k:Nat) (w:World) (v:FrV):Bn k w v w v:=⟨Below.refl _ _,fun _ _ h=>⟨rfl,h⟩⟩
theorem Bn.trans {k:Nat}{a b c:World}{u v x:FrV} (h:Bn k a u b v) (h':Bn k b v c x):Bn k a u c x :=
 ⟨h.bel.trans h'.bel,fun j hj hf=>by
  obtain ⟨e,f⟩:=h.blk j hj hf;obtain ⟨e',f'⟩:=h'.blk j (Nat.lt_of_lt_of_le hj h.bel.size) f;exact ⟨e'.trans e,f'⟩⟩
theorem Bn.of_below {k:Nat}{a b:World} (v:FrV) (h:Below a.heap.size a b):Bn k a v b v:=⟨⟨h.os,h.tape,h.output,h.size,fun _ hj=>absurd hj (Nat.not_lt_zero _)⟩,fun j hj hf=>⟨h.block j hj,hf⟩⟩
theorem Bn.stay {k j:Nat}{w w':World}{v v':FrV}{o:Obj} (h:Bn k w v w' v') (hf:v.free k j) (hb:w.heap[j]?=some o):w'.heap[j]?=some o:=(h.blk j (lt_of_block hb) hf).1.trans hb
theorem Bn.free {k j:Nat}{w w':World}{v v':FrV} (h:Bn k w v w' v') (hf:v.free k j) (hj:j < w.heap.size):v'.free k j:=(h.blk j hj hf).2
theorem Bu {b size n:Nat}{t:TypeId}{v:Value}{xs:List Value}{w w':World} (h:w.ownsRow b t size v n xs) (hk:∀ j,v.ownBlock=some j→w'.heap[j]?=w.heap[j]?):w'.ownsRow b t size v n xs:=by
 obtain ⟨e1,e2 | ⟨g,cap,cur,a,c,d,r⟩⟩:=h
 ·exact ⟨e1,.inl e2⟩
 ·exact ⟨e1,.inr ⟨g,cap,cur,a,c,by rw [hk g (by rw [a];rfl)];exact d,r⟩⟩
theorem BnAt.k_lt {w:World}{B k:Nat}{c:BnC}{v:FrV}{b:Pk.B} (h:BnAt w B k c v b):k < w.heap.size:=lt_of_block h.blk
theorem BnAt.low {w:World}{B k j:Nat}{c:BnC}{v:FrV}{b:Pk.B} (h:BnAt w B k c v b) (hj:j < B):v.free k j :=
 ⟨by have:=h.hB;omega,fun e=>by have:=(h.lo.lt j e).1;omega,fun e=>by have:=(h.st.lt j e).1;omega⟩
theorem BnAt.new {w:World}{B k j:Nat}{c:BnC}{v:FrV}{b:Pk.B} (h:BnAt w B k c v b) (hj:w.heap.size≤j):v.free k j :=
 ⟨by have:=h.k_lt;omega,fun e=>by have:=(h.lo.lt j e).2;omega,fun e=>by have:=(h.st.lt j e).2;omega⟩
theorem BnAt.B_le {w:World}{B k:Nat}{c:BnC}{v:FrV}{b:Pk.B} (h:BnAt w B k c v b):B≤w.heap.size:=Nat.le_of_lt (Nat.lt_of_le_of_lt h.hB h.k_lt)
theorem Bn.low {w w':World}{B k:Nat}{c:BnC}{v v':FrV}{b:Pk.B} (h:Bn k w v w' v') (hb:BnAt w B k c v b):Below B w w' :=
 ⟨h.bel.os,h.bel.tape,h.bel.output,h.bel.size,fun j hj=>(h.blk j (Nat.lt_of_lt_of_le hj hb.B_le) (hb.low hj)).1⟩
theorem BnAt.below {w w':World}{B k:Nat}{c:BnC}{v:FrV}{b:Pk.B} (h:BnAt w B k c v b) (hb:Below w.heap.size w w'):BnAt w' B k c v b :=
 ⟨stay hb h.blk,Bu h.lo (fun j hj=>hb.block j (h.lo.lt j hj).2),Bu h.st (fun j hj=>hb.block j (h.st.lt j hj).2),h.nk,h.ns,h.hB,h.tr.below hb,h.tB,h.tl,h.ll,h.sl⟩
theorem BnAt.alloc {w:World}{B k:Nat}{c:BnC}{v:FrV}{b:Pk.B} (h:BnAt w B k c v b) (o:Obj):BnAt (w.alloc o) B k c v b:=h.below ((Below.refl _ _).alloc (Nat.le_refl _) o)
theorem BnAt.drew {w:World}{B k:Nat}{c:BnC}{v:FrV}{b:Pk.B} (h:BnAt w B k c v b):BnAt w.drew B k c v b:=h.below (Below.refl _ _).drew
theorem Bn.alloc {k:Nat}{w w':World}{v v':FrV} (h:Bn k w v w' v') (o:Obj):Bn k w v (w'.alloc o) v':=h.trans (Bn.of_below v' ((Below.refl _ _).alloc (Nat.le_refl _) o))
theorem Bn.drew {k:Nat}{w w':World}{v v':FrV} (h:Bn k w v w' v'):Bn k w v w'.drew v':=h.trans (Bn.of_below v' (Below.refl _ _).drew)
theorem Dt {w w':World}{g B:Nat}{l:List Int} (h:TreeIn w g l) (hg:g < B) (hb:Below B w w'):TreeIn w' g l :=
 ⟨Nat.lt_of_lt_of_le h.1 hb.size,fun i hi=>by rw [hb.cell (p:=⟨g,i,none⟩) hg];exact h.2 i hi⟩
theorem BnAt.setS {w:World}{B k:Nat}{c:BnC}{v:FrV}{b:Pk.B} (h:BnAt w B k c v b) {sa:Option Addr}{sn sc:Nat}{st:List (Int × Int)} (ht:TysAt w B (.slice sa sn sc) st) (hl:st.length≤5000)
  (hk:(Value.slice sa sn sc).ownBlock ≠ some k) (hs:∀ j,v.lv.ownBlock=some j→(Value.slice sa sn sc).ownBlock ≠ some j) :
  BnAt (w.setCell ⟨k,3,none⟩ (.slice sa sn sc)) B k c ⟨v.la,v.ln,v.lc,sa,sn,sc⟩ ⟨b.lo,st,b.br⟩ :=
 ⟨by rw [Ai h.blk];rfl,Bu h.lo (fun j hj=>Ar (fun e=>h.nk.1 (e ▸ hj))),Bu ht (fun j hj=>Ar (fun e=>hk (e ▸ hj))),⟨h.nk.1,hk⟩,hs,h.hB,
  Dt h.tr h.tB ((Below.refl B w).setCell (by simpa using h.hB) _),h.tB,h.tl,h.ll,hl⟩
theorem BnAt.brk {w:World}{B k:Nat}{c:BnC}{v:FrV}{b:Pk.B} (h:BnAt w B k c v b):BnAt (w.setCell ⟨k,5,none⟩ (.bool true)) B k c v ⟨b.lo,b.st,true⟩ :=
 ⟨by rw [Ai h.blk];rfl,Bu h.lo (fun j hj=>Ar (fun e=>h.nk.1 (e ▸ hj))),Bu h.st (fun j hj=>Ar (fun e=>h.nk.2 (e ▸ hj))),h.nk,h.ns,h.hB,
  Dt h.tr h.tB ((Below.refl B w).setCell (by simpa using h.hB) _),h.tB,h.tl,h.ll,h.sl⟩
theorem Bn.setK {k i:Nat}{w w':World}{v v' v2:FrV} (h:Bn k w v w' v') (u:Value) (hl:v2.lv.ownBlock=v'.lv.ownBlock) (hs:v2.sv.ownBlock=v'.sv.ownBlock):Bn k w v (w'.setCell ⟨k,i,none⟩ u) v2 :=
 h.trans ⟨(Below.refl 0 w').setCell (by simp) u,fun j _ hf=>⟨Ar hf.1,hf.1,by rw [hl];exact hf.2.1,by rw [hs];exact hf.2.2⟩⟩
theorem Bn.brk {k:Nat}{w w':World}{v v':FrV} (h:Bn k w v w' v'):Bn k w v (w'.setCell ⟨k,5,none⟩ (.bool true)) v':=h.setK _ rfl rfl
theorem Wj {w:World}{B n cp:Nat}{a:Option Addr}{l:List (Int × Int)} (h:TysAt w B (.slice a n cp) l) {m:Nat} (hm:m≤l.length):TysAt w B (.slice a m cp) (l.take m):=by
 have hlt:(l.take m).length=m:=by simp;omega
 obtain ⟨hl,⟨hv,hn⟩ | ⟨g,cap,cur,hv,hb,hg,hlen,hmx,hsz,htk⟩⟩:=h
 ·simp only [Value.slice.injEq] at hv;obtain ⟨rfl,rfl,rfl⟩:=hv;have:m=0:=by omega
  subst this;exact ⟨by simp [Al],.inl ⟨rfl,by simp⟩⟩
 ·simp only [Value.slice.injEq] at hv;obtain ⟨rfl,rfl,rfl⟩:=hv;refine ⟨by rw [Fy],.inr ⟨g,cp,cur,by rw [hlt],hb,hg,by omega,hmx,hsz,?_⟩⟩;rw [Qc,hlt,← htk,List.take_take]
  congr 1;omega
theorem BnAt.setF {w:World}{B k j i:Nat}{c:BnC}{v:FrV}{b:Pk.B} (h:BnAt w B k c v b) (hf:v.free k j) (hj:B≤j) (u:Value):BnAt (w.setCell ⟨j,i,none⟩ u) B k c v b :=
 ⟨(Ar (Ne.symm hf.1)).trans h.blk,Bu h.lo (fun x hx=>Ar (fun e=>hf.2.1 (e ▸ hx))),Bu h.st (fun x hx=>Ar (fun e=>hf.2.2 (e ▸ hx))),h.nk,h.ns,h.hB,
  Dt h.tr h.tB ((Below.refl B w).setCell (by simpa using hj) _),h.tB,h.tl,h.ll,h.sl⟩
theorem Bn.setF {k j i:Nat}{w w':World}{v v':FrV} (h:Bn k w v w' v') (hj:w.heap.size≤j) (u:Value):Bn k w v (w'.setCell ⟨j,i,none⟩ u) v' :=
 ⟨h.bel.setCell (by simp) u,fun x hx hf=>by
  obtain ⟨e,f⟩:=h.blk x hx hf;exact ⟨(Ar (by omega)).trans e,f⟩⟩
theorem Do {P:Program}{ops:Array Oper}{o:Oper}{a:Act}{w:World}{K:Act→World→Prop}{Q:Exit→Act→World→Prop}{E:Prop}
  (hg:o.guard=none) (s x:Operand) (t:TypeId) (hop:o.op=Op.call { callee:=Callee.builtin Builtin.append,args:=#[s,x],argTypes:=#[t,t] })
  (base:Nat) (e:TypeId) (i:TypeInfo) (z:Value) (size bytes:Nat) (h1:P.underlying t=some (.slice e)) (h2:P.info? e=some i) (h3:i.zero=some z) (h4:i.size=size) (h5:i.bytes=bytes) (h6:z.cells.size=size) (h7:0 < size)
  (v:Value) (n:Nat) (xs:List Value) (hs:a.eval s=v) (hown:w.ownsRow base e size v n xs)
  (ad:Addr) (m c:Nat) (news:List Value) (hx:a.eval x=.slice (some ad) m c) (hn:news.length=m * size) (hc:∀ j u,news[j]?=some u→w.cell? (ad.add j)=some u) (h1c:∀ u∈news,u.oneCell'=true)
  (b1:n+m≤maxLen) (b2:(n+m) * bytes≤140737488355328) (b3:base≤w.heap.size)
  (hK:∀ v' w',w'.ownsRow base e size v' (n+m) (xs ++ news)→w.grownBy w' v.ownBlock→(v'.ownBlock=v.ownBlock∨v'.ownBlock=some w.heap.size)→K (a.put o.dst v') w') :
  if Region.wanted o (yielded ops a.tmps)=true then Oper.wp P o a w K Q else E:=by
 have hw:Region.wanted o (yielded ops a.tmps)=true:=by simp [Region.wanted,hg]
 rw [if_pos hw];obtain ⟨v',w',hrun,r1,r2,_,r3⟩:=run_append_own_at (P:=P) w base t o.type e i z size bytes h1 h2 h3 h4 h5 h6 h7 v n xs hown ad m c news hn hc h1c b1 b2 b3;unfold Oper.wp;simp [execOp,hop,resolve,invoke,builtin,hs,hx,hrun,Result.andThen];exact hK v' w' r1 r2 r3
theorem BnAt.grown {w w':World}{B k:Nat}{c:BnC}{v:FrV}{b:Pk.B} (h:BnAt w B k c v b) {sa:Option Addr}{sn sc:Nat}{st:List (Int × Int)} (hg:w.grownBy w' v.sv.ownBlock) (ht:TysAt w' B (.slice sa sn sc) st) (hl:st.length≤5000)
  (hat:(Value.slice sa sn sc).ownBlock=v.sv.ownBlock∨(Value.slice sa sn sc).ownBlock=some w.heap.size) :
  BnAt (w'.setCell ⟨k,3,none⟩ (.slice sa sn sc)) B k c ⟨v.la,v.ln,v.lc,sa,sn,sc⟩ ⟨b.lo,st,b.br⟩∧Bn k w v (w'.setCell ⟨k,3,none⟩ (.slice sa sn sc)) ⟨v.la,v.ln,v.lc,sa,sn,sc⟩:=by
 have hblk:w'.heap[k]?=_:=(hg.block k h.k_lt (fun e=>h.nk.2 e.symm)).trans h.blk;have hlo:∀ j,v.lv.ownBlock=some j→w'.heap[j]?=w.heap[j]?:=fun j hj=>hg.block j (h.lo.lt j hj).2 (fun e=>h.ns j hj e.symm);have hk:(Value.slice sa sn sc).ownBlock ≠ some k:=by
  rcases hat with e | e
  ·rw [e];exact h.nk.2
  ·rw [e];intro g;have:=h.k_lt;simp at g;omega
 have hs:∀ j,v.lv.ownBlock=some j→(Value.slice sa sn sc).ownBlock ≠ some j:=by
  intro j hj;rcases hat with e | e
  ·rw [e];exact h.ns j hj
  ·rw [e];intro g;have:=(h.lo.lt j hj).2;simp at g;omega
 have hbel:Below B w w':=⟨hg.os,hg.tape,hg.output,hg.size,fun j hj=>hg.block j (Nat.lt_of_lt_of_le hj h.B_le) (fun e=>by have:=(h.st.lt j e.symm).1;omega)⟩;have hA:BnAt w' B k c v ⟨b.lo,b.st,b.br⟩→True:=fun _=>trivial;clear hA;refine ⟨⟨by rw [Ai hblk];rfl,Bu (Bu h.lo hlo) (fun j hj=>Ar (fun e=>h.nk.1 (e ▸ hj))),Bu ht (fun j hj=>Ar (fun e=>hk (e ▸ hj))),⟨h.nk.1,hk⟩,hs,h.hB,
  Dt (Dt h.tr h.tB hbel) h.tB ((Below.refl B w').setCell (by simpa using h.hB) _),h.tB,h.tl,h.ll,hl⟩,?_⟩
 refine ⟨(⟨hg.os,hg.tape,hg.output,hg.size,fun j hj=>absurd hj (Nat.not_lt_zero _)⟩:Below 0 w w').setCell (by simp) _,fun j hj hf=>⟨?_,hf.1,hf.2.1,?_⟩⟩
 ·rw [Ar hf.1];exact hg.block j hj (fun e=>hf.2.2 e.symm)
 ·rcases hat with e | e
  ·exact fun g=>hf.2.2 (e.symm.trans g)
  ·intro g;rw [e] at g;simp at g;omega
theorem H4 (w:World):Calls Tryz.prog 124 #[] w fun e w'=>e=.returned (.agg #[.int .i64 0,.int .i64 0])∧Below w.heap.size w w':=by
 go_enter Tryz.func124,Tryz.ntmps124;go_wp2;refine bodyPost_ret (v:=.agg #[.int .i64 0,.int .i64 0]) (by simp [results,Tryz.results124,go_sem]) rfl ?_;exact ⟨rfl,by repeat (first | refine Below.setCell ?_ (by simp) _ | refine Below.alloc ?_ (by simp) _ | exact Below.refl _ _)⟩
theorem Cy (w:World) (B k:Nat) (c:BnC) (v:FrV) (b:Pk.B) (h:BnAt w B k c v b) :
  Calls Tryz.prog 200 #[.pointer (some ⟨k,0,none⟩)] w fun e w'=>e=.returned (.agg #[.int .i64 (Pk.take b).1.1,.int .i64 (Pk.take b).1.2])∧∃ v',BnAt w' B k c v' (Pk.take b).2∧Bn k w v w' v':=by
 have hA:=h.alloc (.cells #[.int .i64 0,.int .i64 0] 39);have GA:=(Bn.refl k w v).alloc (.cells #[.int .i64 0,.int .i64 0] 39);have hkl:=h.k_lt;have hBl:=h.B_le;have hnew:=h.new (Nat.le_refl _);have RA:=Ad w (.cells #[.int .i64 0,.int .i64 0] 39);obtain ⟨la,ln,lc,sa,sn,sc⟩:=v;obtain ⟨lo,st,br⟩:=b;obtain ⟨xa,xc,hsh⟩:=Ae h.st;simp only [Value.slice.injEq] at hsh;obtain ⟨rfl,hn1,rfl⟩:=hsh;subst hn1;have hb:=h.blk;have c3:=Ab hb 3;have c5:=Ab hb 5;have f5:=Ag hb 5;have f3:=Ag hb 3;simp at c3 c5;have hst:=h.st;have hsl:=h.sl;simp only at hst hsl;by_cases hz:st.length=0
 ·have e:Pk.take ⟨lo,st,br⟩=((0,0),⟨lo,st,true⟩):=by unfold Pk.take;rw [if_pos hz]
  rw [e];have hz':(st.length:Int)=0:=by omega
  have hA2:=(h.brk).alloc (.cells #[.int .i64 0,.int .i64 0] 39);have GA2:=((Bn.refl k w ⟨la,ln,lc,sa,st.length,sc⟩).brk).alloc (.cells #[.int .i64 0,.int .i64 0] 39);have RA2:=Ad (w.setCell ⟨k,5,none⟩ (.bool true)) (.cells #[.int .i64 0,.int .i64 0] 39);have hsz:(w.setCell ⟨k,5,none⟩ (.bool true)).heap.size=w.heap.size:=by simp [World.setCell]
  rw [hsz] at RA2;clear e hst hb hsz;go_enter Tryz.func200,Tryz.ntmps200;go_wp2_with fail
  refine (H4 _).mono ?_;rintro e w1 ⟨rfl,hb1⟩;have hA3:=hA2.below hb1;have GA3:=GA2.trans (Bn.of_below _ hb1);have R3:=stay hb1 RA2;obtain ⟨r0,r1⟩:=cl2 R3;obtain ⟨q0,q1⟩:=fr2 R3;have lr:=lt_of_block R3;have hfr:=GA3.bel.size;simp at r0 r1;clear hb1 hA hA2 GA GA2 RA RA2;have hfree:FrV.free ⟨la,ln,lc,sa,st.length,sc⟩ k w.heap.size:=hnew;go_wp2;refine bodyPost_ret (v:=.agg #[.int .i64 0,.int .i64 0]) (by simp [results,Tryz.results200,go_sem,r0,r1]) rfl ?_;exact ⟨rfl,_,(hA3.setF hfree hBl _).setF hfree hBl _,(GA3.setF (Nat.le_refl _) _).setF (Nat.le_refl _) _⟩
 ·obtain ⟨m,hm⟩:∃ m,st.length=m+1:=⟨st.length - 1,by omega⟩;have e:Pk.take ⟨lo,st,br⟩=(st.getD m (0,0),⟨lo,st.take m,br⟩):=by unfold Pk.take;rw [if_neg hz];simp only [hm,Nat.add_sub_cancel]
  rw [e];obtain ⟨g,hg,hglt,_,hcell⟩:=Am hst (by omega);obtain ⟨t1,t2,t3⟩:=Bd st m (by omega);have y0:=(hcell (m * 2) (by omega)).trans t1;have y1:=(hcell (m * 2+1) (by omega)).trans t2;have e2:st.getD m (0,0)=st[m]:=by simp [List.getD_eq_getElem?_getD,hm]
  rw [e2];generalize st[m]=t at *;obtain ⟨t1',t2'⟩:=t;simp only at y0 y1 ⊢;subst hg;have hnk:=h.nk.2;have hns:=h.ns;simp only [hm] at hnk hns;have hS:=h.setS (sa:=some ⟨g,0,none⟩) (sn:=m) (sc:=sc) (Wj hst (by omega)) (by simp;omega) hnk hns;have GS:=(Bn.refl k w ⟨la,ln,lc,some ⟨g,0,none⟩,st.length,sc⟩).setK (i:=3) (v2:=⟨la,ln,lc,some ⟨g,0,none⟩,m,sc⟩) (.slice (some ⟨g,0,none⟩) m sc) rfl rfl;obtain ⟨-,hc1,hc2⟩:=(TyR.of_tys hst).cap;simp only at hc1 hc2;have kb:(m:Int) < (st.length:Int):=by omega
  have kw:IntKind.i64.wrap ((st.length:Int) - 1)=(m:Int):=by rw [Eg _ (by omega) (by unfold maxLen at *;omega)];omega
  have kc:(m:Int)≤(sc:Int):=by omega
  have km:m≤sc:=by omega
  clear e e2 hA GA RA hcell t1 t2 t3 hnk hns hm;go_enter Tryz.func200,Tryz.ntmps200;go_wp2;refine bodyPost_ret (v:=.agg #[.int .i64 t1',.int .i64 t2']) (by simp [results,Tryz.results200,go_sem]) rfl ?_;exact ⟨rfl,⟨la,ln,lc,some ⟨g,0,none⟩,m,sc⟩,(hS.alloc _).alloc _,(GS.alloc _).alloc _⟩
theorem Dr (w:World) (B k:Nat) (c:BnC) (v:FrV) (b:Pk.B) (t1 t2:Int) (h:BnAt w B k c v b) (hsl:b.st.length < 5000) :
  Calls Tryz.prog 201 #[.pointer (some ⟨k,0,none⟩),.agg #[.int .i64 t1,.int .i64 t2]] w fun e w'=>e=.returned (.tuple #[])∧∃ v',BnAt w' B k c v' (Pk.leave c.hi (t1,t2) b)∧Bn k w v w' v':=by
 have hA:=h.alloc (.cells #[.int .i64 t1,.int .i64 t2] 39);have GA:=(Bn.refl k w v).alloc (.cells #[.int .i64 t1,.int .i64 t2] 39);have hkl:=h.k_lt;have hBl:=h.B_le;obtain ⟨la,ln,lc,sa,sn,sc⟩:=v;obtain ⟨lo,st,br⟩:=b;obtain ⟨xa,xc,hsh⟩:=Ae h.st;simp only [Value.slice.injEq] at hsh;obtain ⟨rfl,hn1,rfl⟩:=hsh;subst hn1;have c3:=Ab hA.blk 3;have c4:=Ab hA.blk 4;have c5:=Ab hA.blk 5;have f5:=Ag hA.blk 5;have f3:=Ag hA.blk 3;have PA:=Ad w (.cells #[.int .i64 t1,.int .i64 t2] 39);obtain ⟨p0,p1⟩:=cl2 PA;simp at c3 c4 c5 p0 p1;obtain ⟨i0,hi,hz0,hz1,hz2⟩:=info_parts Tryz.infoType;simp only at hsl;have hst2:(w.alloc (.cells #[.int .i64 t1,.int .i64 t2] 39)).ownsRow B 39 2 (.slice sa st.length sc) st.length (Al st):=hA.st;have hnk2:=h.nk.2;unfold Pk.leave;by_cases hz:c.hi≤(st.length:Int)
 ·rw [if_pos hz];go_enter Tryz.func201,Tryz.ntmps201;go_wp2
  go_region_held3 (fun w'=>w'.cell? ⟨k,3,none⟩=some (.slice sa st.length sc)∧w'.cell? ⟨k,4,none⟩=some (.int .i64 c.hi)) (exact ⟨c3,c4⟩) (fail)
  go_wp2;refine bodyPost_ret (v:=.tuple #[]) (by simp [results,Tryz.results201,go_sem]) rfl ?_;exact ⟨rfl,_,(h.brk.alloc _).drew,(((Bn.refl k w ⟨la,ln,lc,sa,st.length,sc⟩).brk).alloc _).drew⟩
 ·rw [if_neg hz];have hZc:∀ j u,[Value.int .i64 t1,.int .i64 t2][j]?=some u→((w.alloc (.cells #[.int .i64 t1,.int .i64 t2] 39)).alloc (.cells #[.int .i64 t1,.int .i64 t2] 39)).drew.drew.cell? ((⟨w.heap.size+1,0,none⟩:Addr).add j)=some u:=by
   intro j u hu;exact Az (w.alloc (.cells #[.int .i64 t1,.int .i64 t2] 39)) [.int .i64 t1,.int .i64 t2] 39 (w.heap.size+1) (by simp) j u hu
  have hfin:∀ va' vc' w2,w2.ownsRow B 39 2 (.slice va' (st.length+1) vc') (st.length+1) (Al st ++ [.int .i64 t1,.int .i64 t2])→World.grownBy ((w.alloc (.cells #[.int .i64 t1,.int .i64 t2] 39)).alloc (.cells #[.int .i64 t1,.int .i64 t2] 39)).drew.drew w2 (Value.slice sa st.length sc).ownBlock →
    ((Value.slice va' (st.length+1) vc').ownBlock=(Value.slice sa st.length sc).ownBlock∨(Value.slice va' (st.length+1) vc').ownBlock=some ((w.alloc (.cells #[.int .i64 t1,.int .i64 t2] 39)).alloc (.cells #[.int .i64 t1,.int .i64 t2] 39)).drew.drew.heap.size)→∃ v',BnAt (w2.setCell ⟨k,3,none⟩ (.slice va' (st.length+1) vc')) B k c v' ⟨lo,st ++ [(t1,t2)],br⟩∧Bn k w ⟨la,ln,lc,sa,st.length,sc⟩ (w2.setCell ⟨k,3,none⟩ (.slice va' (st.length+1) vc')) v':=by
   intro va' vc' w2 hown2 hgrow hat;have hG:=((hA.alloc (.cells #[.int .i64 t1,.int .i64 t2] 39)).drew.drew).grown (st:=st ++ [(t1,t2)]) hgrow (by unfold TysAt;rw [Dv,List.length_append];exact hown2) (by simp;omega) hat;exact ⟨_,hG.1,(((GA.alloc (.cells #[.int .i64 t1,.int .i64 t2] 39)).drew.drew).trans hG.2)⟩
  go_enter Tryz.func201,Tryz.ntmps201;go_wp2
  go_region_held3 (fun w'=>w'.cell? ⟨k,3,none⟩=some (.slice sa st.length sc)∧w'.cell? ⟨k,4,none⟩=some (.int .i64 c.hi)) (exact ⟨c3,c4⟩) (fail)
  go_wp2
  -- MOVES
  refine wp_region_held_drew (S:=fun _=>True) (by kernel_rfl) trivial (fun hHeld=>?_);refine wpAnyH_take (i:=0) (oi:=⟨_,_,_,_,_,_⟩) (v:=.pointer (some ⟨k,0,none⟩)) rfl (by kernel_rfl) (by kernel_rfl) (by kernel_rfl) (fun _ _ _ h=>h) (Or.inl ⟨by rfl,?_⟩) hHeld ?_
  ·intro w' hSw
   go_simp
  try simp only [Act.put,List.setIfInBounds_toArray,List.set_cons_zero,List.set_cons_succ]
  refine wpAnyH_take (i:=1) (oi:=⟨_,_,_,_,_,_⟩) (v:=.pointer (some ⟨k,0,none⟩)) rfl (by kernel_rfl) (by kernel_rfl) (by kernel_rfl) (fun _ _ _ h=>h) (Or.inl ⟨by rfl,?_⟩) hHeld ?_
  ·intro w' hSw
   go_simp
  try simp only [Act.put,List.setIfInBounds_toArray,List.set_cons_zero,List.set_cons_succ]
  refine wpAnyH_take (i:=2) (oi:=⟨_,_,_,_,_,_⟩) (v:=.pointer (some ⟨k,0,none⟩)) rfl (by kernel_rfl) (by kernel_rfl) (by kernel_rfl) (fun _ _ _ h=>h) (Or.inl ⟨by rfl,?_⟩) hHeld ?_
  ·intro w' hSw
   go_simp
  try simp only [Act.put,List.setIfInBounds_toArray,List.set_cons_zero,List.set_cons_succ]
  refine wpAnyH_take (i:=3) (oi:=⟨_,_,_,_,_,_⟩) (v:=.pointer (some ⟨k,3,none⟩)) rfl (by kernel_rfl) (by kernel_rfl) (by kernel_rfl) (fun _ _ _ h=>h) (Or.inl ⟨by rfl,?_⟩) hHeld ?_
  ·intro w' hSw
   go_simp
  try simp only [Act.put,List.setIfInBounds_toArray,List.set_cons_zero,List.set_cons_succ]
  refine wpAnyH_ready (rs:=[4,5]) (by kernel_rfl) (by simp) ?_;refine AllReadyH.cons (o:=⟨_,_,_,_,_,_⟩) rfl (fun K hK=>?_) (AllReadyH.cons (o:=⟨_,_,_,_,_,_⟩) rfl (fun K hK=>?_) AllReadyH.nil)
  ·go_simp
   refine hK.out _ _ trivial (fun hHeld=>?_);clear hK K
   try simp only [Act.put,List.setIfInBounds_toArray,List.set_cons_zero,List.set_cons_succ]
   refine wpAnyH_ready (rs:=[5]) (by kernel_rfl) (by simp) ?_;refine AllReadyH.cons (o:=⟨_,_,_,_,_,_⟩) rfl (fun K hK=>?_) AllReadyH.nil
   go_simp
   refine hK.out _ _ trivial (fun hHeld=>?_);clear hK K
   try simp only [Act.put,List.setIfInBounds_toArray,List.set_cons_zero,List.set_cons_succ]
   refine wpAnyH_ready (rs:=[6]) (by kernel_rfl) (by simp) ?_;refine AllReadyH.cons (o:=⟨_,_,_,_,_,_⟩) rfl (fun K hK=>?_) AllReadyH.nil
   go_simp
   refine hK.out _ _ trivial (fun hHeld=>?_);clear hK K
   try simp only [Act.put,List.setIfInBounds_toArray,List.set_cons_zero,List.set_cons_succ]
   refine wpAnyH_ready (rs:=[7]) (by kernel_rfl) (by simp) ?_;refine AllReadyH.cons (o:=⟨_,_,_,_,_,_⟩) rfl (fun K hK=>?_) AllReadyH.nil;refine Do (by rfl) _ _ _ (by rfl) B 39 i0 _ 2 16 Tryz.underlying48 hi hz0 hz1 hz2 rfl (by omega) _ _ _ (by rfl) ((hst2.alloc (.cells #[.int .i64 t1,.int .i64 t2] 39)).drew.drew) ⟨w.heap.size+1,0,none⟩ 1 1 [.int .i64 t1,.int .i64 t2] (by rfl) (by rfl) hZc (by simp [Value.oneCell']) (by unfold maxLen;omega) (by omega) (by simp;omega) ?_;intro v' w2 hown2 hgrow hat;obtain ⟨va',vc',rfl⟩:=Ae hown2;have hb2:=(hgrow.block k (by simp;omega) (fun e=>hnk2 e.symm)).trans (Af hA.blk (.cells #[.int .i64 t1,.int .i64 t2] 39));have c2:=Ab hb2 3;have f2:=Ag hb2 3;have l2:=lt_of_block hb2;simp at c2;refine hK.out _ _ trivial (fun hHeld=>?_);clear hK K
   try simp only [Act.put,List.setIfInBounds_toArray,List.set_cons_zero,List.set_cons_succ]
   refine wpAnyH_take (i:=8) (oi:=⟨_,_,_,_,_,_⟩) (v:=.pointer (some ⟨k,0,none⟩)) rfl (by kernel_rfl) (by kernel_rfl) (by kernel_rfl) (fun _ _ _ h=>h) (Or.inl ⟨by rfl,?_⟩) hHeld ?_
   ·intro w' hSw
    go_simp
   try simp only [Act.put,List.setIfInBounds_toArray,List.set_cons_zero,List.set_cons_succ]
   refine wpAnyH_take (i:=9) (oi:=⟨_,_,_,_,_,_⟩) (v:=.pointer (some ⟨k,3,none⟩)) rfl (by kernel_rfl) (by kernel_rfl) (by kernel_rfl) (fun _ _ _ h=>h) (Or.inl ⟨by rfl,?_⟩) hHeld ?_
   ·intro w' hSw
    go_simp
   try simp only [Act.put,List.setIfInBounds_toArray,List.set_cons_zero,List.set_cons_succ]
   refine wpAnyH_ready (rs:=[10]) (by kernel_rfl) (by simp) ?_;refine AllReadyH.cons (o:=⟨_,_,_,_,_,_⟩) rfl (fun K hK=>?_) AllReadyH.nil
   go_simp
   refine hK.out _ _ trivial (fun hHeld=>?_);clear hK K
   try simp only [Act.put,List.setIfInBounds_toArray,List.set_cons_zero,List.set_cons_succ]
   refine wpAnyH_done (by kernel_rfl) ?_ _;go_wp2
   go_end0
   exact ⟨rfl,hfin _ _ _ hown2 hgrow hat⟩
  ·go_simp
   refine hK.out _ _ trivial (fun hHeld=>?_);clear hK K
   try simp only [Act.put,List.setIfInBounds_toArray,List.set_cons_zero,List.set_cons_succ]
   refine wpAnyH_ready (rs:=[4,6]) (by kernel_rfl) (by simp) ?_;refine AllReadyH.cons (o:=⟨_,_,_,_,_,_⟩) rfl (fun K hK=>?_) (AllReadyH.cons (o:=⟨_,_,_,_,_,_⟩) rfl (fun K hK=>?_) AllReadyH.nil)
   ·go_simp
    refine hK.out _ _ trivial (fun hHeld=>?_);clear hK K
    try simp only [Act.put,List.setIfInBounds_toArray,List.set_cons_zero,List.set_cons_succ]
    refine wpAnyH_ready (rs:=[6]) (by kernel_rfl) (by simp) ?_;refine AllReadyH.cons (o:=⟨_,_,_,_,_,_⟩) rfl (fun K hK=>?_) AllReadyH.nil
    go_simp
    refine hK.out _ _ trivial (fun hHeld=>?_);clear hK K
    try simp only [Act.put,List.setIfInBounds_toArray,List.set_cons_zero,List.set_cons_succ]
    refine wpAnyH_ready (rs:=[7]) (by kernel_rfl) (by simp) ?_;refine AllReadyH.cons (o:=⟨_,_,_,_,_,_⟩) rfl (fun K hK=>?_) AllReadyH.nil;refine Do (by rfl) _ _ _ (by rfl) B 39 i0 _ 2 16 Tryz.underlying48 hi hz0 hz1 hz2 rfl (by omega) _ _ _ (by rfl) ((hst2.alloc (.cells #[.int .i64 t1,.int .i64 t2] 39)).drew.drew) ⟨w.heap.size+1,0,none⟩ 1 1 [.int .i64 t1,.int .i64 t2] (by rfl) (by rfl) hZc (by simp [Value.oneCell']) (by unfold maxLen;omega) (by omega) (by simp;omega) ?_;intro v' w2 hown2 hgrow hat;obtain ⟨va',vc',rfl⟩:=Ae hown2;have hb2:=(hgrow.block k (by simp;omega) (fun e=>hnk2 e.symm)).trans (Af hA.blk (.cells #[.int .i64 t1,.int .i64 t2] 39));have c2:=Ab hb2 3;have f2:=Ag hb2 3;have l2:=lt_of_block hb2;simp at c2;refine hK.out _ _ trivial (fun hHeld=>?_);clear hK K
    try simp only [Act.put,List.setIfInBounds_toArray,List.set_cons_zero,List.set_cons_succ]
    refine wpAnyH_take (i:=8) (oi:=⟨_,_,_,_,_,_⟩) (v:=.pointer (some ⟨k,0,none⟩)) rfl (by kernel_rfl) (by kernel_rfl) (by kernel_rfl) (fun _ _ _ h=>h) (Or.inl ⟨by rfl,?_⟩) hHeld ?_
    ·intro w' hSw
     go_simp
    try simp only [Act.put,List.setIfInBounds_toArray,List.set_cons_zero,List.set_cons_succ]
    refine wpAnyH_take (i:=9) (oi:=⟨_,_,_,_,_,_⟩) (v:=.pointer (some ⟨k,3,none⟩)) rfl (by kernel_rfl) (by kernel_rfl) (by kernel_rfl) (fun _ _ _ h=>h) (Or.inl ⟨by rfl,?_⟩) hHeld ?_
    ·intro w' hSw
     go_simp
    try simp only [Act.put,List.setIfInBounds_toArray,List.set_cons_zero,List.set_cons_succ]
    refine wpAnyH_ready (rs:=[10]) (by kernel_rfl) (by simp) ?_;refine AllReadyH.cons (o:=⟨_,_,_,_,_,_⟩) rfl (fun K hK=>?_) AllReadyH.nil
    go_simp
    refine hK.out _ _ trivial (fun hHeld=>?_);clear hK K
    try simp only [Act.put,List.setIfInBounds_toArray,List.set_cons_zero,List.set_cons_succ]
    refine wpAnyH_done (by kernel_rfl) ?_ _;go_wp2
    go_end0
    exact ⟨rfl,hfin _ _ _ hown2 hgrow hat⟩
   ·go_simp
    refine hK.out _ _ trivial (fun hHeld=>?_);clear hK K
    try simp only [Act.put,List.setIfInBounds_toArray,List.set_cons_zero,List.set_cons_succ]
    refine wpAnyH_ready (rs:=[4]) (by kernel_rfl) (by simp) ?_;refine AllReadyH.cons (o:=⟨_,_,_,_,_,_⟩) rfl (fun K hK=>?_) AllReadyH.nil
    go_simp
    refine hK.out _ _ trivial (fun hHeld=>?_);clear hK K
    try simp only [Act.put,List.setIfInBounds_toArray,List.set_cons_zero,List.set_cons_succ]
    refine wpAnyH_ready (rs:=[7]) (by kernel_rfl) (by simp) ?_;refine AllReadyH.cons (o:=⟨_,_,_,_,_,_⟩) rfl (fun K hK=>?_) AllReadyH.nil;refine Do (by rfl) _ _ _ (by rfl) B 39 i0 _ 2 16 Tryz.underlying48 hi hz0 hz1 hz2 rfl (by omega) _ _ _ (by rfl) ((hst2.alloc (.cells #[.int .i64 t1,.int .i64 t2] 39)).drew.drew) ⟨w.heap.size+1,0,none⟩ 1 1 [.int .i64 t1,.int .i64 t2] (by rfl) (by rfl) hZc (by simp [Value.oneCell']) (by unfold maxLen;omega) (by omega) (by simp;omega) ?_;intro v' w2 hown2 hgrow hat;obtain ⟨va',vc',rfl⟩:=Ae hown2;have hb2:=(hgrow.block k (by simp;omega) (fun e=>hnk2 e.symm)).trans (Af hA.blk (.cells #[.int .i64 t1,.int .i64 t2] 39));have c2:=Ab hb2 3;have f2:=Ag hb2 3;have l2:=lt_of_block hb2;simp at c2;refine hK.out _ _ trivial (fun hHeld=>?_);clear hK K
    try simp only [Act.put,List.setIfInBounds_toArray,List.set_cons_zero,List.set_cons_succ]
    refine wpAnyH_take (i:=8) (oi:=⟨_,_,_,_,_,_⟩) (v:=.pointer (some ⟨k,0,none⟩)) rfl (by kernel_rfl) (by kernel_rfl) (by kernel_rfl) (fun _ _ _ h=>h) (Or.inl ⟨by rfl,?_⟩) hHeld ?_
    ·intro w' hSw
     go_simp
    try simp only [Act.put,List.setIfInBounds_toArray,List.set_cons_zero,List.set_cons_succ]
    refine wpAnyH_take (i:=9) (oi:=⟨_,_,_,_,_,_⟩) (v:=.pointer (some ⟨k,3,none⟩)) rfl (by kernel_rfl) (by kernel_rfl) (by kernel_rfl) (fun _ _ _ h=>h) (Or.inl ⟨by rfl,?_⟩) hHeld ?_
    ·intro w' hSw
     go_simp
    try simp only [Act.put,List.setIfInBounds_toArray,List.set_cons_zero,List.set_cons_succ]
    refine wpAnyH_ready (rs:=[10]) (by kernel_rfl) (by simp) ?_;refine AllReadyH.cons (o:=⟨_,_,_,_,_,_⟩) rfl (fun K hK=>?_) AllReadyH.nil
    go_simp
    refine hK.out _ _ trivial (fun hHeld=>?_);clear hK K
    try simp only [Act.put,List.setIfInBounds_toArray,List.set_cons_zero,List.set_cons_succ]
    refine wpAnyH_done (by kernel_rfl) ?_ _;go_wp2
    go_end0
    exact ⟨rfl,hfin _ _ _ hown2 hgrow hat⟩
  -- END
end Go.Proofs.YtcefiamkoincoaaGreat
