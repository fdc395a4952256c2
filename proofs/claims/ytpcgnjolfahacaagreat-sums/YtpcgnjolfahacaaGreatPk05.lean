/- a part of the proofs -/
import Derived.Test.YtpcgnjolfahacaaGreatPk04
set_option maxRecDepth 100000
set_option maxHeartbeats 40000000
set_option linter.unusedVariables false
set_option linter.unusedSimpArgs false
namespace Go.Proofs.YtpcgnjolfahacaaGreat
open Go.RowKit
def Ag4 (f:Cd.Ins→Bool):List Cd.Ins→Int
 | []=>-1
 | x::r=>if f x=true then x.place else Ag4 f r
def Ahv (T:List Int) (nf:Int) (ow:List Int) (lo:Int) (L:List Cd.Ins) (x:Cd.Ins):Bool:=!Cd.argP T nf ow lo L x.op x.n
def Aiq (T:List Int) (L:List Cd.Ins) (cn:Int) (x:Rd.Hnd):Bool:=!Cd.hndMay T L cn x
def Ah0 (T:List Int) (nf:Int) (ow:List Int) (m:Rd.Mth):Int × Int :=
 if 0≤Cd.unread m.code then (5,Cd.unread m.code)
 else if 0≤Ag4 (Ahv T nf ow m.locals (Cd.insts m.code)) (Cd.insts m.code) then (5,Ag4 (Ahv T nf ow m.locals (Cd.insts m.code)) (Cd.insts m.code))
 else if 0≤Cd.firstIx (Aiq T (Cd.insts m.code) (m.code.length:Int)) 0 m.handlers then (6,Cd.firstIx (Aiq T (Cd.insts m.code) (m.code.length:Int)) 0 m.handlers)
 else Cd.faultOf (Cd.inMaps T (Cd.insts m.code) 0 0 m.maps)
def Agh (T:List Int) (nf:Int) (ow:List Int):Nat→List Rd.Mth→Int × Int × Int
 | _,[]=>(0,0,0)
 | k,m::r=>if (Ah0 T nf ow m).1≠0 then ((Ah0 T nf ow m).1,(k:Int),(Ah0 T nf ow m).2) else Agh T nf ow (k+1) r
def Ain (T:List Int) (r1 r2:Int):Bool:=if r1=0∧r2=0 then true else Tr.plainB T r1 r2
def Aib (a b:Rd.Mth):Bool:=if a.result≠b.result then false else decide (a.params=b.params)
def Air (T:List Int) (m:Rd.Mth):Bool :=
 if Tr.allPlainB T m.params=false then false else if Ain T m.result.1 m.result.2=false then false
 else if m.cl=255 then (if m.name=0 then decide ((m.params.length:Int)≤m.locals) else false)
 else if m.cl<7 then false else if Tr.hasB T m.cl=false then false else decide ((m.params.length:Int)<m.locals)
def Ah4 (m o:Rd.Mth):Bool:=(o.cl==m.cl)&&(o.name==m.name)
def Ag5 (T:List Int) (m o:Rd.Mth):Bool:=(o.name==m.name)&&(Tr.below T m.cl o.cl && !Aib o m)
def Ai3 (es:List Rd.Mth) (m:Rd.Mth):Bool:=if m.cl=255 then false else es.any (Ah4 m)
def Ah1 (T:List Int) (ms:List Rd.Mth) (m:Rd.Mth):Bool:=if m.cl=255 then false else ms.any (Ag5 T m)
def Ajj (T:List Int) (ms:List Rd.Mth) (k:Nat) (m:Rd.Mth):Bool :=
 if Air T m=false then true else if Ai3 (ms.take k) m=true then true else Ah1 T ms m
def Ag7 (T:List Int) (ms:List Rd.Mth):Nat→List Rd.Mth→Int
 | _,[]=>-1
 | k,m::r=>if Ajj T ms k m=true then (k:Int) else Ag7 T ms (k+1) r
def Ajn (T:List Int) (nf:Int) (ms:List Rd.Mth):Int × Int × Int :=
 if 0≤Ag7 T ms 0 ms then (4,Ag7 T ms 0 ms,0) else Agh T nf (ms.map Rd.Mth.cl) 0 ms
def Ahz (f:Rd.Fil):Int × Int × Int :=
 if (Tr.inCl (Tr.tree f.classes) 0 f.classes).1≠0 then ((Tr.inCl (Tr.tree f.classes) 0 f.classes).1,(Tr.inCl (Tr.tree f.classes) 0 f.classes).2,0)
 else Ajn (Tr.tree f.classes) (Cd.fieldSum f.classes:Int) f.methods
def Aga (s:List UInt8):Int × Int × Int:=if (Rd.read s).2≠0 then ((Rd.read s).2,0,0) else Ahz (Rd.read s).1
theorem Js {f:Nat→Bool}{l:List Nat} (h:Cd.first f l<0):∀ p∈l,f p=false:=by
 induction l with
 | nil=>simp
 | cons p r ih =>
  obtain⟨h1,h2⟩:=Yq h;intro q hq;simp only[List.mem_cons]at hq;rcases hq with rfl|hq
  ·exact h1
  ·exact ih h2 q hq
theorem Aa3 {T:List Int}{nf:Int}{ow:List Int}{lo:Int}{c:List Int}{op:Int} (h:Cd.wd op=1) (n n':Int):Cd.argB T nf ow lo c op n=Cd.argB T nf ow lo c op n':=by
 unfold Cd.wd at h;have h':¬ (op=0∨op=2∨op=3∨(11≤op∧op≤21)):=by
  intro g;rw[if_pos g]at h;omega
 unfold Cd.argB;rw[if_neg (by omega),if_neg (by omega),if_neg (by omega),if_neg (by omega),if_neg (by omega),if_neg (by omega)];rw[if_neg (by omega),if_neg (by omega),if_neg (by omega),if_neg (by omega),if_neg (by omega),if_neg (by omega)]
theorem Iy {c:List Int} (h0:∀ x∈c,0≤x) (i:Nat):0≤c.getD i 0:=by
 rw[List.getD_eq_getElem?_getD];by_cases h:i<c.length
 ·rw[List.getElem?_eq_getElem h];exact h0 _ (List.getElem_mem h)
 ·rw[List.getElem?_eq_none (by omega)]
  simp
theorem Wt {T:List Int}{nf:Int}{ow:List Int}{lo:Int}{c:List Int} (h0:∀ x∈c,0≤x) (ps:List Nat) (hp:∀ p∈ps,Cd.noRead c p=false) :
  Ag4 (Ahv T nf ow lo (Cd.insts c)) (ps.map (Cd.insAt c))=Cd.first (Cd.badArg T nf ow lo c) ps:=by
 induction ps with
 | nil=>rfl
 | cons p r ih =>
  rw[List.map_cons,Ag4,Cd.first,ih (fun q hq=>hp q (List.mem_cons_of_mem _ hq))]
  have hn:=hp p (List.mem_cons_self ..);unfold Cd.noRead at hn;simp only[Bool.or_eq_false_iff,decide_eq_false_iff_not]at hn;have key:Ahv T nf ow lo (Cd.insts c) (Cd.insAt c p)=Cd.badArg T nf ow lo c p:=by
   unfold Ahv Cd.badArg Cd.argAt Cd.insAt;simp only;have hw:=Cd.wd_bd (c.getD p 0);by_cases h2:Cd.wd (c.getD p 0)=2
   ·rw[if_pos h2,Cd.argP_eq T nf ow lo c _ _ (fun _=>Iy h0 _)];unfold Cd.nAt;rw[if_pos (by omega)]
   ·rw[if_neg h2,Cd.argP_eq T nf ow lo c _ _ (fun _=>by omega),Aa3 (by omega) 0 (Cd.nAt c p)]
  rw[key];rfl
theorem V7 {α:Type}{f g:α→Bool} (h:∀ x,f x=g x) (l:List α):∀ k,Cd.firstIx f k l=Cd.firstIx g k l:=by
 induction l with
 | nil=>intro k;rfl
 | cons x r ih=>intro k;rw[Cd.firstIx,Cd.firstIx,h x,ih]
theorem Ach {T:List Int} (hT:Tr.Ok T) (h1:1<T.length) (nf:Int) (ow:List Int) (m:Rd.Mth) (h0:∀ x∈m.code,0≤x):Ah0 T nf ow m=Ais T nf ow m:=by
 unfold Ah0 Ais Cd.badCode;by_cases hu:0≤Cd.unread m.code
 ·rw[if_pos hu,if_pos hu,if_pos hu]
 ·rw[if_neg hu,if_neg hu];have e1:Ag4 (Ahv T nf ow m.locals (Cd.insts m.code)) (Cd.insts m.code)=Cd.first (Cd.badArg T nf ow m.locals m.code) (Cd.places m.code) :=
   Wt h0 (Cd.places m.code) (Js (by unfold Cd.unread at hu;omega))
  have e2:Cd.firstIx (Aiq T (Cd.insts m.code) (m.code.length:Int)) 0 m.handlers=Cd.firstIx (Cd.hndBad T m.code) 0 m.handlers :=
   V7 (fun x=>by unfold Aiq;rw[Cd.hndMay_eq hT h1];simp) m.handlers 0
  rw[e1,e2,Cd.inMaps_eq];by_cases h2:0≤Cd.first (Cd.badArg T nf ow m.locals m.code) (Cd.places m.code)
  ·rw[if_pos h2,if_pos h2]
  ·rw[if_neg h2,if_neg h2];by_cases h3:0≤Cd.firstIx (Cd.hndBad T m.code) 0 m.handlers
   ·rw[if_pos h3,if_pos h3]
   ·rw[if_neg h3,if_neg h3];rw[show ((0:Int)-1) = -1 from rfl];generalize Cd.mapsBad T m.code 0 (-1) m.maps=q;unfold Cd.faultOf;by_cases h4:q<0
    ·rw[if_pos h4,if_neg (by omega)]
    ·rw[if_neg h4,if_pos (by omega)]
theorem Xr {T:List Int} (hT:Tr.Ok T) (h1:1<T.length) (nf:Int) (ow:List Int) (l:List Rd.Mth) (h0:∀ m∈l,∀ x∈m.code,0≤x):∀ k,Agh T nf ow k l=Ai2 T nf ow k l:=by
 induction l with
 | nil=>intro k;rfl
 | cons m r ih =>
  intro k;rw[Agh,Ai2,Ach hT h1 nf ow m (h0 m (List.mem_cons_self ..)),ih (fun x hx=>h0 x (List.mem_cons_of_mem _ hx))]
theorem Wp {T:List Int} (hT:Tr.Ok T) {a:Int} (h0:0≤a) (hl:a<(T.length:Int)):Tr.below T a a=false:=by
 cases h:Tr.below T a a with
 | false=>rfl
 | true=>have:=Tr.below_lt hT h0 hl h;omega
theorem Wy {T:List Int} (hT:Tr.Ok T) {a b:Int} (h0:0≤b) (hl:a<(T.length:Int)) (hb:a≤b):Tr.below T a b=false:=by
 cases h:Tr.below T a b with
 | false=>rfl
 | true=>have:=Tr.below_lt hT h0 hl h;omega
theorem Abf {T:List Int} (hT:Tr.Ok T) (hT2:T.length≤200) (m o:Rd.Mth) (hc0:0≤m.cl) (hc:m.cl<(T.length:Int)) (ho:0≤o.cl) (k i:Nat) :
  Akd T m.cl m.name m.result.1 m.result.2 m.params k i o=((decide (i<k)&&Ah4 m o) || Ag5 T m o):=by
 unfold Akd Ah4 Ag5;by_cases h1:o.name≠m.name
 ·rw[if_pos h1];have:(o.name==m.name)=false:=by simpa using h1
  rw[this]
  simp
 ·rw[if_neg h1];have e1:(o.name==m.name)=true:=by simpa using h1
  rw[e1];by_cases h2:o.cl=255
  ·rw[if_pos h2,h2,Wy hT (by omega) hc (by omega)];have:((255:Int)==m.cl)=false:=by simp;omega
   rw[this]
   simp
  ·rw[if_neg h2];by_cases h3:o.cl=m.cl
   ·rw[if_pos h3,h3,Wp hT hc0 hc]
    simp
   ·rw[if_neg h3];have e3:(o.cl==m.cl)=false:=by simpa using h3
    have e4:Tr.rbel T m.cl o.cl=Tr.below T m.cl o.cl:=by
     have e:=Tr.rbel_iff hT hc0 hc ho;refine Bool.eq_iff_iff.2 ⟨fun g=>?_,fun g=>e.2 (.inr g)⟩;rcases e.1 g with g | g
     ·exact absurd g h3
     ·exact g
    rw[e3,e4];unfold Aib;by_cases h5:o.result=m.result
    ·simp[h5]
    ·simp[h5]
theorem Adr {T:List Int} (hT:Tr.Ok T) (hT2:T.length≤200) (m:Rd.Mth) (hc0:0≤m.cl) (hc:m.cl<(T.length:Int)) (k:Nat) (l:List Rd.Mth) (ho:∀ o∈l,0≤o.cl) :
  ∀ i,Ajv T m.cl m.name m.result.1 m.result.2 m.params k i l=(!(l.take (k-i)).any (Ah4 m) && !l.any (Ag5 T m)):=by
 induction l with
 | nil=>intro i;simp[Ajv]
 | cons o r ih =>
  intro i;rw[Ajv,Abf hT hT2 m o hc0 hc (ho o (List.mem_cons_self ..)),ih (fun x hx=>ho x (List.mem_cons_of_mem _ hx))];by_cases hi:i<k
  ·rw[show k-i=(k-(i+1))+1 by omega,List.take_succ_cons,List.any_cons,List.any_cons];have:decide (i<k)=true:=by simpa using hi
   rw[this];cases Ah4 m o<;>cases Ag5 T m o<;>simp
  ·rw[show k-i=0 by omega,show k-(i+1)=0 by omega,List.any_cons];have:decide (i<k)=false:=by simpa using hi
   rw[this];cases Ag5 T m o<;>simp
theorem Adp {T:List Int} (hT:Tr.Ok T) (hT2:T.length≤200) (ms:List Rd.Mth) (ho:∀ o∈ms,0≤o.cl) (k:Nat) (m:Rd.Mth) (_hm:0≤m.cl):Ajj T ms k m = !Aii T ms k m:=by
 unfold Ajj Aii Akb Air Ain Ai3 Ah1 Aj9 Aka;cases hp:Tr.allPlainB T m.params with
 | false=>simp
 | true =>
  have hres:(if m.result.1=0∧m.result.2=0 then true else Tr.plainB T m.result.1 m.result.2) = !(!Tr.plainB T m.result.1 m.result.2 && !decide ((m.result.1,m.result.2)=((0:Int),(0:Int)))):=by
   by_cases h:m.result.1=0∧m.result.2=0
   ·rw[if_pos h];simp[h]
   ·rw[if_neg h];have:decide ((m.result.1,m.result.2)=((0:Int),(0:Int)))=false:=by simpa using h
    rw[this]
    simp
  rw[hres];generalize (!Tr.plainB T m.result.1 m.result.2 && !decide ((m.result.1,m.result.2)=((0:Int),(0:Int))))=R;cases R with
  | true=>simp
  | false =>
   by_cases h1:m.cl=255
   ·simp only[if_pos h1];by_cases h2:m.name=0
    ·by_cases h3:(m.params.length:Int)≤m.locals
     ·have h3':¬ m.locals<(m.params.length:Int):=by omega
      simp[h1,h2,h3,h3']
     ·have h3':m.locals<(m.params.length:Int):=by omega
      simp[h1,h2,h3,h3']
    ·simp[h2]
   ·simp only[if_neg h1];by_cases h2:m.cl<7
    ·simp[h2]
    ·cases h3:Tr.hasB T m.cl with
     | false=>simp[h2]
     | true =>
      have hb:0≤m.cl∧m.cl<(T.length:Int):=by simpa[Tr.hasB] using h3
      by_cases h4:(m.params.length:Int)<m.locals
      ·have h4':¬ m.locals<(m.params.length:Int):=by omega
       have h4'':¬ m.locals=(m.params.length:Int):=by omega
       rw[Adr hT hT2 m hb.1 hb.2 k ms ho 0];simp only[Nat.sub_zero];cases (ms.take k).any (Ah4 m)<;>cases ms.any (Ag5 T m)<;>simp[h1,h2,h4,h4',h4'']
      ·by_cases h5:m.locals<(m.params.length:Int)
       ·simp[h1,h2,h4,h5]
       ·have h6:m.locals=(m.params.length:Int):=by omega
        simp[h1,h2,h6]
theorem Aau {T:List Int} (hT:Tr.Ok T) (hT2:T.length≤200) (ms:List Rd.Mth) (ho:∀ o∈ms,0≤o.cl) (l:List Rd.Mth) (hl:∀ o∈l,0≤o.cl):∀ k,Ag7 T ms k l=Aij T ms k l:=by
 induction l with
 | nil=>intro k;rfl
 | cons m r ih =>
  intro k;rw[Ag7,Aij,Adp hT hT2 ms ho k m (hl m (List.mem_cons_self ..)),ih (fun x hx=>hl x (List.mem_cons_of_mem _ hx))];cases Aii T ms k m<;>simp
theorem Vc {T:List Int} (hT:Tr.Ok T) (hT2:T.length≤200) (h1:1<T.length) (nf:Int) (ms:List Rd.Mth) (ho:∀ o∈ms,0≤o.cl) (h0:∀ m∈ms,∀ x∈m.code,0≤x):Ajn T nf ms=Aj8 T nf ms:=by
 unfold Ajn Aj8;rw[Aau hT hT2 ms ho ms ho,Xr hT h1 nf _ ms h0]
structure Aji (m:Rd.Mth):Prop where
 ps:m.params.length≤8
 code:m.code.length≤120
 code0:∀ x∈m.code,0≤x
 hs:m.handlers.length≤4
 mp:m.maps.length≤64
 fr:∀ p∈m.maps,p.locals.length≤8∧p.stack.length≤8∧0≤p.place∧p.place≤255
 cl:0≤m.cl
theorem Ae1 (s:List UInt8) (L H:Int) (hL:L≤8) (hH0:0≤H) (hH:H≤8) (t:Rd.St):(Rd.mp s L H t).1.locals.length≤8∧(Rd.mp s L H t).1.stack.length≤8∧0≤(Rd.mp s L H t).1.place∧(Rd.mp s L H t).1.place≤255:=by
 simp only[Rd.mp,Rd.tys,Rd.rep_len];have:=Rd.cn_bd s 0 H (Rd.rep (Rd.ty s) L.toNat (Rd.nx s t).2).2 hH0;have:=Rd.nx_bd s t;omega
theorem Add (s:List UInt8) (t:Rd.St):Aji (Rd.mth s t).1:=by
 simp only[Rd.mth];generalize (Rd.nx s (Rd.nx s t).2).2=t1;have h1:=Rd.cn_bd s 0 4 t1 (by omega);generalize Rd.cn s 0 4 t1=p at *;generalize (Rd.tys s p.1.toNat p.2).2=t2;generalize (Rd.ty s t2).2=t3;have h2:=Rd.cn_bd s 0 8 t3 (by omega);generalize Rd.cn s 0 8 t3=l at *;have h3:=Rd.cn_bd s 0 8 l.2 (by omega);generalize Rd.cn s 0 8 l.2=h at *;refine⟨?_,?_,?_,?_,?_,?_,?_⟩
 ·simp only[Rd.tys,Rd.rep_len];omega
 ·simp only[Rd.codes,Rd.rep_len];have:=Rd.cn_bd s 1 120 h.2 (by omega);omega
 ·simp only[Rd.codes];exact Ek (fun x:Int=>0≤x) _ (fun t=>Rh s t) _ _
 ·simp only[Rd.hnds,Rd.rep_len];have:=Rd.cn_bd s 0 4 (Rd.codes s h.2).2 (by omega);omega
 ·simp only[Rd.mps,Rd.rep_len];have:=Rd.cn_bd s 0 64 (Rd.hnds s (Rd.codes s h.2).2).2 (by omega);omega
 ·simp only[Rd.mps];exact Ek (fun p:Rd.Mp=>p.locals.length≤8∧p.stack.length≤8∧0≤p.place∧p.place≤255) _ (fun t=>Ae1 s l.1 h.1 h2.2 h3.1 h3.2 t) _ _
 ·exact Rh s t
theorem Hn (s:List UInt8):(Rd.read s).1.methods.length≤6∧∀ m∈(Rd.read s).1.methods,Aji m:=by
 unfold Rd.read
 split
 ·simp
 ·split
  ·simp
  ·simp only[Rd.fil];refine⟨?_,Ek Aji _ (fun t=>Add s t) _ _⟩;rw[Rd.rep_len];have:=Rd.cn_bd s 1 6 (Rd.rep (Rd.cls s) (Rd.cn s 0 6 (Rd.ex s 77 (Rd.ex s 83 ⟨0,false⟩))).1.toNat (Rd.cn s 0 6 (Rd.ex s 77 (Rd.ex s 83 ⟨0,false⟩))).2).2 (by omega);omega
theorem Zw (l:List Int) (cs:List Rd.Cls):∀ k:Nat,((Tr.inCl l k cs).1=0∨(Tr.inCl l k cs).1=3)∧0≤(Tr.inCl l k cs).2:=by
 induction cs with
 | nil=>intro k;exact⟨.inl rfl,by show (0:Int)≤0;omega⟩
 | cons c r ih =>
  intro k;unfold Tr.inCl
  split
  ·exact⟨.inr rfl,by show (0:Int)≤7+(k:Int);omega⟩
  ·split
   ·exact⟨.inr rfl,by show (0:Int)≤7+(k:Int);omega⟩
   ·exact ih _
theorem Cf (s:List UInt8):Aga s=Rf.formed s:=by
 obtain⟨h1,h2⟩:=Mb s;have hok:=Vx s;obtain⟨hm6,hmb⟩:=Hn s;obtain⟨hc6,_⟩:=H9 s;unfold Aga Rf.formed Rf.nf;unfold Rf.classed at hok ⊢;by_cases hl:15000<s.length
 ·rw[if_pos hl]at h1;rw[h1];simp[hl]
 ·rw[if_neg hl]at h1;simp only[if_neg hl]at hok ⊢;by_cases hf:(Rf.fil s).2.2≠(s.length:Int)
  ·rw[if_pos hf]at h1;rw[h1];simp[hf]
  ·rw[if_neg hf]at h1;simp only[if_neg hf]at hok ⊢;rw[if_neg (by rw[h1];simp)];obtain⟨hcs,hms⟩:=h2 h1;unfold Ahz;rw[hcs]at hc6;rw[hms]at hm6 hmb;rw[hcs,hms];have hw:=Zw (Tr.tree (Rf.fil s).1) (Rf.fil s).1 0;have hnf:=Cd.fields_eq (Tr.tree (Rf.fil s).1) (Rf.fil s).1 (Rf.fil s).1.length (Nat.le_refl _);rw[List.take_length]at hnf;rw[hnf];generalize hI:Tr.inCl (Tr.tree (Rf.fil s).1) 0 (Rf.fil s).1=I at *;by_cases h0:I.1=0
   ·have hb:¬ 0≤Tr.badOf I:=by unfold Tr.badOf;rw[if_pos h0];omega
    simp only[if_neg hb]at hok ⊢;rw[if_neg (fun h=>h h0),if_neg (by simp)];have hT:=(hok trivial).1;have hTl:=Br (Rf.fil s).1;exact Vc hT (by omega) (by omega) _ _ (fun o ho=>(hmb o ho).cl) (fun m hm=>(hmb m hm).code0)
   ·have hb:0≤Tr.badOf I:=by unfold Tr.badOf;rw[if_neg h0];exact hw.2
    have e:Tr.badOf I=I.2:=by unfold Tr.badOf;rw[if_neg h0]
    have e3:I.1=3:=hw.1.resolve_left h0;rw[if_pos h0,if_pos hb,if_pos (by simp),e,e3]
structure PM where
 cl:Int
 nm:Int
 pa:Option Addr
 pl:Nat
 pc:Nat
 r1:Int
 r2:Int
 lo:Int
 st:Int
 ca:Option Addr
 cn:Nat
 cc:Nat
 ha:Option Addr
 hl:Nat
 hc:Nat
 ma:Option Addr
 ml:Nat
 mc:Nat
def PM.val (m:PM):Value:=.agg #[.int .i64 m.cl,.int .i64 m.nm,.slice m.pa m.pl m.pc,.int .i64 m.r1,.int .i64 m.r2,.int .i64 m.lo,.int .i64 m.st,.slice m.ca m.cn m.cc,.slice m.ha m.hl m.hc,.slice m.ma m.ml m.mc]
def PM.list (m:PM):List Value:=[.int .i64 m.cl,.int .i64 m.nm,.slice m.pa m.pl m.pc,.int .i64 m.r1,.int .i64 m.r2,.int .i64 m.lo,.int .i64 m.st,.slice m.ca m.cn m.cc,.slice m.ha m.hl m.hc,.slice m.ma m.ml m.mc]
structure PM.is (m:PM) (x:Rd.Mth) (w:World) (bb:Nat):Prop where
 cl:m.cl=x.cl
 nm:m.nm=x.name
 r1:m.r1=x.result.1
 r2:m.r2=x.result.2
 lo:m.lo=x.locals
 st:m.st=x.stack
 pl:m.pl=x.params.length
 ps:TysAt w bb (.slice m.pa m.pl m.pc) x.params
 cn:m.cn=x.code.length
 code:IntsAt w bb (.slice m.ca m.cn m.cc) x.code
 hl:m.hl=x.handlers.length
 hs:HndsAt w bb (.slice m.ha m.hl m.hc) x.handlers
 ml:m.ml=x.maps.length
 mp:Ab7 w bb (.slice m.ma m.ml m.mc) x.maps
theorem PM.is.kp {m:PM}{x:Rd.Mth}{w w':World}{bb:Nat} (h:m.is x w bb) {e:Option TypeId} (hk:Kp e bb w w') (a1:some 31≠e) (a2:some 3≠e) (a3:some 267≠e) (a4:some 266≠e):m.is x w' bb:=by
 obtain⟨h1,h2,h3,h4,h5,h6,h7,h8,h9,h10,h11,h12,h13,l,hl,h14⟩:=h;exact⟨h1,h2,h3,h4,h5,h6,h7,h8.kp hk a1,h9,h10.kp hk a2,h11,h12.kp hk a3,h13,l,hl,h14.kp hk a4 a1⟩
theorem PM.is.below {m:PM}{x:Rd.Mth}{w w':World}{bb:Nat} (h:m.is x w bb) (hb:Below w.heap.size w w'):m.is x w' bb:=h.kp (Kp.of_below (e:=none) hb) (by decide) (by decide) (by decide) (by decide)
theorem Aaj (l:List (Rd.Mth × MthV)) (k:Nat) (hk:k<l.length) (j:Nat) (hj:j<10):(Bx l)[k*10+j]?=(Cl l[k].1 l[k].2)[j]?∧k*10+j<(Bx l).length:=by
 refine⟨Fp (fun x:Rd.Mth × MthV=>Cl x.1 x.2) 10 (fun _=>rfl) l k hk j hj,?_⟩;unfold Bx;rw[En (fun x:Rd.Mth × MthV=>Cl x.1 x.2) 10 (fun _=>rfl) l];omega
theorem MthsIn.mth {w:World}{b:Nat}{a:Option Addr}{n c:Nat}{l:List (Rd.Mth × MthV)} (h:MthsIn w b (.slice a n c) l) {k:Nat} (hk:k<l.length) :
  ∃ (m:PM) (g:Nat),a=some ⟨g,0,none⟩∧g<w.heap.size∧(∀ j v,m.list[j]?=some v→w.cell? ⟨g,k*10+j,none⟩=some v)∧m.is l[k].1 w b:=by
 obtain⟨hrow,hall⟩:=h;obtain⟨xa,xc,hsh⟩:=Ae hrow;simp only[Value.slice.injEq]at hsh;obtain⟨rfl,rfl,rfl⟩:=hsh;obtain⟨g,hg,hglt,_,hcell⟩:=Ao hrow (by omega);obtain⟨hp,hc,hh,lm,hlm,hm⟩:=hall _ (List.getElem_mem hk);have hat:=fun j hj=>Aaj l k hk j hj;generalize l[k]=x at *;obtain⟨x,u⟩:=x;obtain⟨up,uc,uh,um⟩:=u;simp only at hp hc hh hm hat;obtain⟨pa,pc,rfl⟩:=Ae hp;obtain⟨ca,cc,rfl⟩:=Ae hc;obtain⟨ha,hc',rfl⟩:=Ae hh;obtain⟨ma,mc,rfl⟩:=Ae hm.1;have hml:lm.length=x.maps.length:=by rw[← hlm];simp
 refine⟨⟨x.cl,x.name,pa,x.params.length,pc,x.result.1,x.result.2,x.locals,x.stack,ca,x.code.length,cc,ha,x.handlers.length,hc',ma,lm.length,mc⟩,g,hg,hglt,?_,⟨rfl,rfl,rfl,rfl,rfl,rfl,rfl,hp,rfl,hc,rfl,hh,hml,lm,hlm,hm⟩⟩;intro j v hv;have hj:j<10:=by
  have:=(List.getElem?_eq_some_iff.1 hv).1
  simpa[PM.list] using this
 obtain⟨e1,e2⟩:=hat j hj;rw[hcell _ e2,e1,← hv];rfl
theorem Fq {m:PM}{w:World}{g k:Nat} (h:∀ j v,m.list[j]?=some v→w.cell? ⟨g,k*10+j,none⟩=some v) :
  w.cell? ⟨g,k*10,none⟩=some (.int .i64 m.cl)∧w.cell? ⟨g,k*10+1,none⟩=some (.int .i64 m.nm)∧w.cell? ⟨g,k*10+2,none⟩=some (.slice m.pa m.pl m.pc)∧w.cell? ⟨g,k*10+3,none⟩=some (.int .i64 m.r1) ∧
  w.cell? ⟨g,k*10+4,none⟩=some (.int .i64 m.r2)∧w.cell? ⟨g,k*10+5,none⟩=some (.int .i64 m.lo)∧w.cell? ⟨g,k*10+6,none⟩=some (.int .i64 m.st)∧w.cell? ⟨g,k*10+7,none⟩=some (.slice m.ca m.cn m.cc) ∧
  w.cell? ⟨g,k*10+8,none⟩=some (.slice m.ha m.hl m.hc)∧w.cell? ⟨g,k*10+9,none⟩=some (.slice m.ma m.ml m.mc) :=
 ⟨h 0 _ rfl,h 1 _ rfl,h 2 _ rfl,h 3 _ rfl,h 4 _ rfl,h 5 _ rfl,h 6 _ rfl,h 7 _ rfl,h 8 _ rfl,h 9 _ rfl⟩
variable {ya:Option Addr}{yn yc:Nat}
theorem Pz (T:List Int) (a:Option Addr) (cap:Nat) (k n:Int) (w:World) :
  Calls Tryz.prog 211 #[.agg #[.slice a T.length cap,.slice ya yn yc],.agg #[.int .i64 k,.int .i64 n]] w fun e w'=>e=.returned (.bool (Ain T k n))∧Below w.heap.size w w':=by
 have hP:=fun w=>Fx (ya:=ya) (yn:=yn) (yc:=yc) T a cap k n w;unfold Ain;generalize Tr.plainB T k n=P at *;have HP:=Ac hP;clear hP;by_cases h:k=0∧n=0
 ·rw[if_pos h];obtain⟨rfl,rfl⟩:=h;go_enter Tryz.func211,Tryz.ntmps211;go_wp2;go_ret;exact⟨rfl,Ai _ _ _⟩
 ·rw[if_neg h];by_cases hk:k=0
  ·subst hk;have hn:(n==0)=false:=by simpa using h
   clear h;go_enter Tryz.func211,Tryz.ntmps211;go_wp2_with fail
   refine(Aa HP _).mono ?_;rintro e w1 ⟨rfl,hb1⟩;go_wp2;go_ret;exact⟨rfl,(Ai _ _ _).trans (hb1.mono (by simp;omega))⟩
  ·have hn:(k==0)=false:=by simpa using hk
   clear h hk;go_enter Tryz.func211,Tryz.ntmps211;go_wp2_with fail
   refine(Aa HP _).mono ?_;rintro e w1 ⟨rfl,hb1⟩;go_wp2;go_ret;exact⟨rfl,(Ai _ _ _).trans (hb1.mono (by simp;omega))⟩
theorem Sv (T:List Int) (a:Option Addr) (cap bb:Nat) (m:PM) (x:Rd.Mth) (w:World) (hm:m.is x w bb) (hps:x.params.length≤1000) :
  Calls Tryz.prog 159 #[.agg #[.slice a T.length cap,.slice ya yn yc],m.val] w fun e w'=>e=.returned (.bool (Air T x))∧Below w.heap.size w w':=by
 have hA:=fun w' (h:Below w.heap.size w w')=>Gx (ya:=ya) (yn:=yn) (yc:=yc) T a cap m.pa m.pl m.pc bb x.params w' hps (hm.below h).ps;have hR:=fun w=>Pz (ya:=ya) (yn:=yn) (yc:=yc) T a cap m.r1 m.r2 w;have hH:=fun w=>Nv (ya:=ya) (yn:=yn) (yc:=yc) T a cap m.cl w;generalize hr:Air T x=R;unfold Air at hr;rw[← hm.cl,← hm.nm,← hm.r1,← hm.r2,← hm.lo,← hm.pl]at hr;generalize Tr.allPlainB T x.params=A at *;clear hm hps;obtain⟨cl,nm,pa,pl,pc,r1,r2,lo,st,ca,cn,cc,ha,hl,hc,ma,ml,mc⟩:=m;simp only[PM.val]at hA hR hH hr ⊢;generalize Ain T r1 r2=B at *;generalize Tr.hasB T cl=K at *;have HA:=Ac hA;have HR:=Ac hR;have HH:=Ac hH;clear hA hR hH;have hB0:=Ai w (O2 a T.length cap ya yn yc) (O12 cl nm pa pl pc r1 r2 lo st ca cn cc ha hl hc ma ml mc);have CT0:=Ak w (O2 a T.length cap ya yn yc) (O12 cl nm pa pl pc r1 r2 lo st ca cn cc ha hl hc ma ml mc);have CM0:=Ah w (O2 a T.length cap ya yn yc) (O12 cl nm pa pl pc r1 r2 lo st ca cn cc ha hl hc ma ml mc);have hA0:=Ac (Aa HA _ hB0);clear HA;cases A with
 | false =>
  have HE:Hid (R=false):=by unfold Hid;rw[← hr];simp
  clear hr;go_enter Tryz.func159,Tryz.ntmps159;go_wp2_with fail
  refine(Aa hA0).mono ?_;rintro e w1 ⟨rfl,hb1⟩;go_wp2;go_ret;exact⟨by rw[Aa HE];rfl,QB hB0 hb1⟩
 | true =>
  cases B with
  | false =>
   have HE:Hid (R=false):=by unfold Hid;rw[← hr];simp
   clear hr;go_enter Tryz.func159,Tryz.ntmps159;go_wp2_with fail
   refine(Aa hA0).mono ?_;rintro e w1 ⟨rfl,hb1⟩;have hB1:=QB hB0 hb1;have CT1:=stay hb1 CT0;have CM1:=stay hb1 CM0;obtain⟨t0,t1⟩:=cl2 CT1;simp at t0 t1;obtain⟨m0,m1,m2,m3,m4,m5,m6,m7,m8,m9⟩:=De CM1;simp at m0 m1 m2 m3 m4 m5 m6 m7 m8 m9;go_wp2_with fail
   refine(Aa HR _).mono ?_;rintro e w2 ⟨rfl,hb2⟩;go_wp2;go_ret;exact⟨by rw[Aa HE];rfl,QB hB1 hb2⟩
  | true =>
   have HRR:Hid ((if cl=255 then (if nm=0 then decide ((pl:Int)≤lo) else false) else if cl<7 then false else if K=false then false else decide ((pl:Int)<lo))=R):=by unfold Hid;rw[← hr];simp
   clear hr;by_cases h1:cl=255
   ·subst h1;have hr:=Aa HRR;rw[if_pos rfl]at hr;clear HRR;by_cases h2:nm=0
    ·subst h2;rw[if_pos rfl]at hr;have HE:=Ac hr;clear hr;go_enter Tryz.func159,Tryz.ntmps159;go_wp2_with fail
     refine(Aa hA0).mono ?_;rintro e w1 ⟨rfl,hb1⟩;have hB1:=QB hB0 hb1;have CT1:=stay hb1 CT0;have CM1:=stay hb1 CM0;obtain⟨t0,t1⟩:=cl2 CT1;simp at t0 t1;obtain⟨m0,m1,m2,m3,m4,m5,m6,m7,m8,m9⟩:=De CM1;simp at m0 m1 m2 m3 m4 m5 m6 m7 m8 m9;go_wp2_with fail
     refine(Aa HR _).mono ?_;rintro e w2 ⟨rfl,hb2⟩;have hB2:=QB hB1 hb2;have CM2:=stay hb2 CM1;clear m0 m1 m2 m3 m4 m5 m6 m7 m8 m9;obtain⟨m0,m1,m2,m3,m4,m5,m6,m7,m8,m9⟩:=De CM2;simp at m0 m1 m2 m3 m4 m5 m6 m7 m8 m9;go_wp2;go_ret;exact⟨by rw[← Aa HE];rfl,hB2⟩
    ·rw[if_neg h2]at hr;have h2':(nm==0)=false:=by simpa using h2
     have HE:=Ac hr;clear hr h2;go_enter Tryz.func159,Tryz.ntmps159;go_wp2_with fail
     refine(Aa hA0).mono ?_;rintro e w1 ⟨rfl,hb1⟩;have hB1:=QB hB0 hb1;have CT1:=stay hb1 CT0;have CM1:=stay hb1 CM0;obtain⟨t0,t1⟩:=cl2 CT1;simp at t0 t1;obtain⟨m0,m1,m2,m3,m4,m5,m6,m7,m8,m9⟩:=De CM1;simp at m0 m1 m2 m3 m4 m5 m6 m7 m8 m9;go_wp2_with fail
     refine(Aa HR _).mono ?_;rintro e w2 ⟨rfl,hb2⟩;have hB2:=QB hB1 hb2;have CM2:=stay hb2 CM1;clear m0 m1 m2 m3 m4 m5 m6 m7 m8 m9;obtain⟨m0,m1,m2,m3,m4,m5,m6,m7,m8,m9⟩:=De CM2;simp at m0 m1 m2 m3 m4 m5 m6 m7 m8 m9;go_wp2;go_ret;exact⟨by rw[← Aa HE];rfl,hB2⟩
   ·have hr:=Aa HRR;rw[if_neg h1]at hr;have h1':(cl==255)=false:=by simpa using h1
    clear HRR h1;by_cases h2:cl<7
    ·rw[if_pos h2]at hr;have HE:=Ac hr;clear hr;go_enter Tryz.func159,Tryz.ntmps159;go_wp2_with fail
     refine(Aa hA0).mono ?_;rintro e w1 ⟨rfl,hb1⟩;have hB1:=QB hB0 hb1;have CT1:=stay hb1 CT0;have CM1:=stay hb1 CM0;obtain⟨t0,t1⟩:=cl2 CT1;simp at t0 t1;obtain⟨m0,m1,m2,m3,m4,m5,m6,m7,m8,m9⟩:=De CM1;simp at m0 m1 m2 m3 m4 m5 m6 m7 m8 m9;go_wp2_with fail
     refine(Aa HR _).mono ?_;rintro e w2 ⟨rfl,hb2⟩;have hB2:=QB hB1 hb2;have CM2:=stay hb2 CM1;clear m0 m1 m2 m3 m4 m5 m6 m7 m8 m9;obtain⟨m0,m1,m2,m3,m4,m5,m6,m7,m8,m9⟩:=De CM2;simp at m0 m1 m2 m3 m4 m5 m6 m7 m8 m9;go_wp2;go_ret;exact⟨by rw[← Aa HE];rfl,hB2⟩
    ·rw[if_neg h2]at hr;cases K with
     | false =>
      rw[if_pos rfl]at hr;have HE:=Ac hr;clear hr;go_enter Tryz.func159,Tryz.ntmps159;go_wp2_with fail
      refine(Aa hA0).mono ?_;rintro e w1 ⟨rfl,hb1⟩;have hB1:=QB hB0 hb1;have CT1:=stay hb1 CT0;have CM1:=stay hb1 CM0;obtain⟨t0,t1⟩:=cl2 CT1;simp at t0 t1;obtain⟨m0,m1,m2,m3,m4,m5,m6,m7,m8,m9⟩:=De CM1;simp at m0 m1 m2 m3 m4 m5 m6 m7 m8 m9;go_wp2_with fail
      refine(Aa HR _).mono ?_;rintro e w2 ⟨rfl,hb2⟩;have hB2:=QB hB1 hb2;have CM2:=stay hb2 CM1;have CT2:=stay hb2 CT1;clear m0 m1 m2 m3 m4 m5 m6 m7 m8 m9 t0 t1;obtain⟨t0,t1⟩:=cl2 CT2;simp at t0 t1;obtain⟨m0,m1,m2,m3,m4,m5,m6,m7,m8,m9⟩:=De CM2;simp at m0 m1 m2 m3 m4 m5 m6 m7 m8 m9;go_wp2_with fail
      refine(Aa HH _).mono ?_;rintro e w3 ⟨rfl,hb3⟩;go_wp2;go_ret;exact⟨by rw[← Aa HE];rfl,QB hB2 hb3⟩
     | true =>
      rw[if_neg (by simp)]at hr;have HE:=Ac hr;clear hr;go_enter Tryz.func159,Tryz.ntmps159;go_wp2_with fail
      refine(Aa hA0).mono ?_;rintro e w1 ⟨rfl,hb1⟩;have hB1:=QB hB0 hb1;have CT1:=stay hb1 CT0;have CM1:=stay hb1 CM0;obtain⟨t0,t1⟩:=cl2 CT1;simp at t0 t1;obtain⟨m0,m1,m2,m3,m4,m5,m6,m7,m8,m9⟩:=De CM1;simp at m0 m1 m2 m3 m4 m5 m6 m7 m8 m9;go_wp2_with fail
      refine(Aa HR _).mono ?_;rintro e w2 ⟨rfl,hb2⟩;have hB2:=QB hB1 hb2;have CM2:=stay hb2 CM1;have CT2:=stay hb2 CT1;clear m0 m1 m2 m3 m4 m5 m6 m7 m8 m9 t0 t1;obtain⟨t0,t1⟩:=cl2 CT2;simp at t0 t1;obtain⟨m0,m1,m2,m3,m4,m5,m6,m7,m8,m9⟩:=De CM2;simp at m0 m1 m2 m3 m4 m5 m6 m7 m8 m9;go_wp2_with fail
      refine(Aa HH _).mono ?_;rintro e w3 ⟨rfl,hb3⟩;have hB3:=QB hB2 hb3;have CM3:=stay hb3 CM2;clear m0 m1 m2 m3 m4 m5 m6 m7 m8 m9 t0 t1;obtain⟨m0,m1,m2,m3,m4,m5,m6,m7,m8,m9⟩:=De CM3;simp at m0 m1 m2 m3 m4 m5 m6 m7 m8 m9;go_wp2;go_ret;exact⟨by rw[← Aa HE];rfl,hB3⟩
theorem Wj (es:List Rd.Mth) (ea:Option Addr) (ec:Nat) (m:PM) (x:Rd.Mth) (w:World) (hcl:m.cl=x.cl) (hnm:m.nm=x.name) (hel:es.length≤1000)
  (HM:∀ w',Below w.heap.size w w'→∀ k (hk:k<es.length),∃ (o:PM) (g:Nat),ea=some ⟨g,0,none⟩∧g<w'.heap.size∧(∀ j v,o.list[j]?=some v→w'.cell? ⟨g,k*10+j,none⟩=some v)∧o.cl=es[k].cl∧o.nm=es[k].name) :
  Calls Tryz.prog 160 #[.slice ea es.length ec,m.val] w fun e w'=>e=.returned (.bool (Ai3 es x))∧Below w.heap.size w w':=by
 generalize hr:Ai3 es x=R;unfold Ai3 at hr;rw[← hcl]at hr;have hTw:∀ o,Ah4 x o=((o.cl==m.cl)&&(o.name==m.nm)):=fun o=>by unfold Ah4;rw[hcl,hnm]
 obtain⟨cl,nm,pa,pl,pc,r1,r2,lo,st,ca,cn,cc,ha,hl,hc,ma,ml,mc⟩:=m;simp only[PM.val]at hr hTw ⊢;have HM':=Ac HM;have HTW:=Ac hTw;have hB0:Below w.heap.size w (w.alloc (O12 cl nm pa pl pc r1 r2 lo st ca cn cc ha hl hc ma ml mc)):=QN _;have CM0:=Ad w (O12 cl nm pa pl pc r1 r2 lo st ca cn cc ha hl hc ma ml mc);clear HM hTw hcl hnm;by_cases h1:cl=255
 ·subst h1;rw[if_pos rfl]at hr;have HE:=Ac hr;clear hr;go_enter Tryz.func160,Tryz.ntmps160;go_wp2;go_ret;exact⟨by rw[← Aa HE];rfl,hB0⟩
 ·rw[if_neg h1]at hr;have h1':(cl==255)=false:=by simpa using h1
  have HR:Hid ((es.drop 0).any (Ah4 x)=R):=hr;clear hr h1;go_enter Tryz.func160,Tryz.ntmps160;go_wp2
  go_loopw [12] (fun v wr=>∃ k:Nat,k≤es.length∧v=.int .i64 (k:Int)∧Hid ((es.drop k).any (Ah4 x)=R)∧Below w.heap.size w wr∧wr.heap[w.heap.size]?=some (O12 cl nm pa pl pc r1 r2 lo st ca cn cc ha hl hc ma ml mc))
   (fun v _=>es.length-(intOf v).toNat)
  case atStart=>exact⟨0,by omega,rfl,HR,hB0,CM0⟩
  case round =>
   clear HR hB0 CM0;obtain⟨k,hk,rfl,HR,hB,CM⟩:=hrel;have hBs:=hB.size;have lM:=lt_of_block CM;obtain⟨m0,m1⟩:=cl2 CM;simp at m0 m1;by_cases hkn:k<es.length
   ·obtain⟨o,g,hg,hglt,hrow,e1,e2⟩:=Aa HM' _ hB k hkn;replace hrow:=Fq hrow;have hd:es.drop k=es[k]::es.drop (k+1):=List.drop_eq_getElem_cons hkn;have hr:=Aa HR;rw[hd,List.any_cons,Aa HTW,← e1,← e2]at hr;obtain⟨ocl,onm,opa,opl,opc,or1,or2,olo,ost,oca,ocn,occ,oha,ohl,ohc,oma,oml,omc⟩:=o;simp only at hrow hr;obtain⟨y0,y1,y2,y3,y4,y5,y6,y7,y8,y9⟩:=hrow;have kb:(k:Int)<(es.length:Int):=by omega
    have hB1:=hB.alloc hBs (O12 ocl onm opa opl opc or1 or2 olo ost oca ocn occ oha ohl ohc oma oml omc);have CM1:=Af CM (O12 ocl onm opa opl opc or1 or2 olo ost oca ocn occ oha ohl ohc oma oml omc);clear hd e1 e2 HR;subst hg;by_cases h2:ocl=cl
    ·subst h2;by_cases h3:onm=nm
     ·subst h3;have HE:Hid (R=true):=by unfold Hid;rw[← hr];simp
      clear hr;go_wp2;go_ret;exact⟨by rw[Aa HE];rfl,hB1⟩
     ·have HG:Hid ((es.drop (k+1)).any (Ah4 x)=R):=by unfold Hid;rw[← hr];simp[h3]
      have h3':(onm==nm)=false:=by simpa using h3
      clear hr h3;go_wp2
      go_roundw
      case rel=>exact⟨k+1,by omega,by go_num,HG,hB1,CM1⟩
      case measure=>simp[intOf];omega
    ·have HG:Hid ((es.drop (k+1)).any (Ah4 x)=R):=by unfold Hid;rw[← hr];simp[h2]
     have h2':(ocl==cl)=false:=by simpa using h2
     clear hr h2;go_wp2
     go_roundw
     case rel=>exact⟨k+1,by omega,by go_num,HG,hB1,CM1⟩
     case measure=>simp[intOf];omega
   ·have HE:Hid (R=false):=by unfold Hid;rw[← Aa HR,List.drop_eq_nil_of_le (by omega)];rfl
    have kb:¬ (k:Int)<(es.length:Int):=by omega
    clear HR;go_wp2;go_ret;exact⟨by rw[Aa HE];rfl,hB⟩
theorem Qr (o m:PM) (y x:Rd.Mth) (bb:Nat) (w:World) (ho:o.is y w bb) (hm:m.is x w bb) (hly:y.params.length≤1000) (_hlx:x.params.length≤1000) :
  Calls Tryz.prog 213 #[o.val,m.val] w fun e w'=>e=.returned (.bool (Aib y x))∧Below w.heap.size w w':=by
 generalize hr:Aib y x=R;unfold Aib at hr;have hy:y.result=(o.r1,o.r2):=by rw[ho.r1,ho.r2]
 have hx:x.result=(m.r1,m.r2):=by rw[hm.r1,hm.r2]
 rw[hy,hx]at hr;have HPO:∀ w',Below w.heap.size w w'→TysAt w' bb (.slice o.pa o.pl o.pc) y.params:=fun w' h=>(ho.below h).ps;have HPM:∀ w',Below w.heap.size w w'→TysAt w' bb (.slice m.pa m.pl m.pc) x.params:=fun w' h=>(hm.below h).ps;have eo:=ho.pl;have em:=hm.pl;clear hy hx ho hm;generalize y.params=A at *;generalize x.params=B at *;obtain⟨ocl,onm,opa,opl,opc,or1,or2,olo,ost,oca,ocn,occ,oha,ohl,ohc,oma,oml,omc⟩:=o;obtain⟨cl,nm,pa,pl,pc,r1,r2,lo,st,ca,cn,cc,ha,hl,hc,ma,ml,mc⟩:=m;simp only at eo em;subst eo em;simp only[PM.val]at hr HPO HPM ⊢;have HO:=Ac HPO;have HM:=Ac HPM;have hB0:=Ai w (O12 ocl onm opa A.length opc or1 or2 olo ost oca ocn occ oha ohl ohc oma oml omc) (O12 cl nm pa B.length pc r1 r2 lo st ca cn cc ha hl hc ma ml mc);have CO0:=Ak w (O12 ocl onm opa A.length opc or1 or2 olo ost oca ocn occ oha ohl ohc oma oml omc) (O12 cl nm pa B.length pc r1 r2 lo st ca cn cc ha hl hc ma ml mc);have CM0:=Ah w (O12 ocl onm opa A.length opc or1 or2 olo ost oca ocn occ oha ohl ohc oma oml omc) (O12 cl nm pa B.length pc r1 r2 lo st ca cn cc ha hl hc ma ml mc);clear HPO HPM;by_cases h1:or1=r1∧or2=r2
 ·rw[if_neg (by simp[h1])]at hr;obtain⟨rfl,rfl⟩:=h1;by_cases h2:A.length=B.length
  ·have HR:Hid (decide (A.drop 0=B.drop 0)=R):=hr;have h2':((A.length:Int) != (B.length:Int))=false:=by simp[h2]
   have le1:A.length≤B.length:=by omega
   have le2:B.length≤A.length:=by omega
   clear hr h2;go_enter Tryz.func213,Tryz.ntmps213;go_wp2
   go_loopw [24] (fun v wr=>∃ k:Nat,k≤A.length∧v=.int .i64 (k:Int)∧Hid (decide (A.drop k=B.drop k)=R)∧Below w.heap.size w wr∧wr.heap[w.heap.size+1]?=some (O12 cl nm pa B.length pc or1 or2 lo st ca cn cc ha hl hc ma ml mc))
    (fun v _=>A.length-(intOf v).toNat)
   case atStart=>exact⟨0,by omega,rfl,HR,hB0,CM0⟩
   case round =>
    clear HR hB0 CM0 CO0;obtain⟨k,hk,rfl,HR,hB,CM⟩:=hrel;have hBs:=hB.size;have lM:=lt_of_block CM;have m2:=Ab CM 2;simp at m2;by_cases hkn:k<A.length
    ·have hkb:k<B.length:=by omega
     obtain⟨ga,hga,hgalt,_,hca⟩:=Ao (Aa HO _ hB) (by omega);obtain⟨gb,hgb,hgblt,_,hcb⟩:=Ao (Aa HM _ hB) (by omega);obtain⟨a1,a2,a3⟩:=Db A k hkn;obtain⟨b1,b2,b3⟩:=Db B k hkb;have x0:=(hca (k*2) (by omega)).trans a1;have x1:=(hca (k*2+1) (by omega)).trans a2;have y0:=(hcb (k*2) (by omega)).trans b1;have y1:=(hcb (k*2+1) (by omega)).trans b2;have hr:=Aa HR;rw[Jm hkn hkb]at hr;have kb:(k:Int)<(A.length:Int):=by omega
     have kb2:(k:Int)<(B.length:Int):=by omega
     have kb3:decide ((B.length:Int)≤(k:Int))=false:=by simp;omega
     generalize A[k]=p at *;generalize B[k]=q at *;obtain⟨p1,p2⟩:=p;obtain⟨q1,q2⟩:=q;simp only at x0 x1 y0 y1;have hB1:=hB.alloc hBs (O7 p1 p2);have CM1:=Af CM (O7 p1 p2);have hnn:¬ ((B.length:Int)≤(k:Int)):=by omega
     clear hca hcb a1 a2 a3 b1 b2 b3 HR;subst hga hgb;by_cases h3:p1=q1∧p2=q2
     ·obtain⟨rfl,rfl⟩:=h3;have HG:Hid (decide (A.drop (k+1)=B.drop (k+1))=R):=by unfold Hid;rw[← hr];simp
      clear hr;go_wp2_with (go_quiet (fail))
      go_wp2
      go_roundw
      case rel=>exact⟨k+1,by omega,by go_num,HG,⟨hB1.os,hB1.tape,hB1.output,hB1.size,hB1.block⟩,CM1⟩
      case measure=>simp[intOf];omega
     ·have HE:Hid (R=false):=by
       unfold Hid;have:decide ((p1,p2)=(q1,q2))=false:=by simpa using h3
       rw[← hr,this];rfl
      clear hr;by_cases h4:q1=p1
      ·subst h4;have h5:(q2==p2)=false:=by
        have:¬ q2=p2:=fun h=>h3 ⟨rfl,h.symm⟩
        simpa using this
       clear h3;go_wp2_with (go_quiet (fail))
       go_wp2;go_ret;exact⟨by rw[Aa HE];rfl,⟨hB1.os,hB1.tape,hB1.output,hB1.size,hB1.block⟩⟩
      ·have h5:(q1==p1)=false:=by simpa using h4
       clear h3 h4;go_wp2_with (go_quiet (fail))
       go_wp2;go_ret;exact⟨by rw[Aa HE];rfl,⟨hB1.os,hB1.tape,hB1.output,hB1.size,hB1.block⟩⟩
    ·have HE:Hid (R=true):=by unfold Hid;rw[← Aa HR,List.drop_eq_nil_of_le (by omega),List.drop_eq_nil_of_le (by omega)];rfl
     have kb:¬ (k:Int)<(A.length:Int):=by omega
     clear HR;go_wp2;go_ret;exact⟨by rw[Aa HE];rfl,hB⟩
  ·have HE:Hid (R=false):=by
    unfold Hid;rw[← hr];simp only[decide_eq_false_iff_not];intro h;exact h2 (by rw[h])
   have h2':((A.length:Int) != (B.length:Int))=true:=by simp;omega
   clear hr h2;go_enter Tryz.func213,Tryz.ntmps213;go_wp2;go_ret;exact⟨by rw[Aa HE];rfl,hB0⟩
 ·rw[if_pos (by simpa using h1)]at hr;have HE:=Ac hr;clear hr;by_cases h4:or1=r1
  ·subst h4;have h5:(or2==r2)=false:=by
    have:¬ or2=r2:=fun h=>h1 ⟨rfl,h⟩
    simpa using this
   clear h1;go_enter Tryz.func213,Tryz.ntmps213;go_wp2;go_ret;exact⟨by rw[← Aa HE];rfl,hB0⟩
  ·have h5:(or1==r1)=false:=by simpa using h4
   clear h1 h4;go_enter Tryz.func213,Tryz.ntmps213;go_wp2;go_ret;exact⟨by rw[← Aa HE];rfl,hB0⟩
variable {ya:Option Addr}{yn yc:Nat}
theorem N9 (fa1 fa2:Option Addr) (fl1 fc1 fc2:Nat) (lms:List (Rd.Mth × MthV)) (T:List Int) (tg cap bb:Nat) (m:PM) (x:Rd.Mth) (w:World) (hm:m.is x w bb) (hT:T.length≤1000) (hTr:TreeIn w tg T)
  (hm6:lms.length≤6) (hms:MthsIn w bb (.slice fa2 lms.length fc2) lms) (hpx:x.params.length≤1000) (hpl:∀ p∈lms,p.1.params.length≤1000) :
  Calls Tryz.prog 161 #[.agg #[.slice fa1 fl1 fc1,.slice fa2 lms.length fc2],.agg #[.slice (some ⟨tg,0,none⟩) T.length cap,.slice ya yn yc],m.val] w fun e w'=>e=.returned (.bool (Ah1 T (lms.map Prod.fst) x))∧Below w.heap.size w w':=by
 generalize hr:Ah1 T (lms.map Prod.fst) x=R;unfold Ah1 at hr;rw[← hm.cl]at hr;have hBr:∀ o,Ag5 T x o=((o.name==m.nm)&&(Tr.below T m.cl o.cl && !Aib o x)):=fun o=>by unfold Ag5;rw[hm.cl,hm.nm]
 have hBl:=fun h w' (hb:Below w.heap.size w w')=>Jn (ya:=ya) (yn:=yn) (yc:=yc) T tg cap m.cl h w' hT (hTr.below hb);have hSC:=fun (o:PM) (y:Rd.Mth) w' (hb:Below w.heap.size w w') (ho:o.is y w' bb) hy=>Qr o m y x bb w' ho (hm.below hb) hy hpx;have HMS:∀ w',Below w.heap.size w w'→MthsIn w' bb (.slice fa2 lms.length fc2) lms:=fun w' h=>hms.kp (Kp.of_below (e:=none) h) (by decide) (by decide) (by decide) (by decide) (by decide);clear hm hms hTr;obtain⟨cl,nm,pa,pl,pc,r1,r2,lo,st,ca,cn,cc,ha,hl,hc,ma,ml,mc⟩:=m;simp only[PM.val]at hr hBr hBl hSC ⊢;have HBR:=Ac hBr;have HBL:=Ac hBl;have HSC:=Ac hSC;have HM':=Ac HMS;have HPL:=Ac hpl;have hB0:=Cb w (O1 fa1 fl1 fc1 fa2 lms.length fc2) (O2 (some ⟨tg,0,none⟩) T.length cap ya yn yc) (O12 cl nm pa pl pc r1 r2 lo st ca cn cc ha hl hc ma ml mc);have C0:=J8 w (O1 fa1 fl1 fc1 fa2 lms.length fc2) (O2 (some ⟨tg,0,none⟩) T.length cap ya yn yc) (O12 cl nm pa pl pc r1 r2 lo st ca cn cc ha hl hc ma ml mc);clear hBr hBl hSC HMS hpl;by_cases h1:cl=255
 ·subst h1;rw[if_pos rfl]at hr;have HE:=Ac hr;clear hr;go_enter Tryz.func161,Tryz.ntmps161;go_wp2;go_ret;exact⟨by rw[← Aa HE];rfl,hB0⟩
 ·rw[if_neg h1]at hr;have h1':(cl==255)=false:=by simpa using h1
  have HR:Hid (((lms.map Prod.fst).drop 0).any (Ag5 T x)=R):=hr;clear hr h1;go_enter Tryz.func161,Tryz.ntmps161;go_wp2
  go_loopw [15] (fun v wr=>∃ k:Nat,k≤lms.length∧v=.int .i64 (k:Int)∧Hid (((lms.map Prod.fst).drop k).any (Ag5 T x)=R)∧Below w.heap.size w wr∧wr.heap[w.heap.size+1]?=some (O2 (some ⟨tg,0,none⟩) T.length cap ya yn yc)∧wr.heap[w.heap.size+1+1]?=some (O12 cl nm pa pl pc r1 r2 lo st ca cn cc ha hl hc ma ml mc))
   (fun v _=>lms.length-(intOf v).toNat)
  case atStart=>exact⟨0,by omega,rfl,HR,hB0,C0.2.1,C0.2.2⟩
  case round =>
   clear HR hB0 C0;obtain⟨k,hk,rfl,HR,hB,CT,CM⟩:=hrel;have hBs:=hB.size;have lT:=lt_of_block CT;have lM:=lt_of_block CM;obtain⟨m0,m1,m2,m3,m4,m5,m6,m7,m8,m9⟩:=De CM;simp at m0 m1 m2 m3 m4 m5 m6 m7 m8 m9;obtain⟨t0,t1⟩:=cl2 CT;simp at t0 t1;by_cases hkn:k<lms.length
   ·obtain⟨o,g,hg,hglt,hrow,his⟩:=(Aa HM' _ hB).mth hkn;replace hrow:=Fq hrow;have hpo:=Aa HPL _ (List.getElem_mem hkn);have hd:(lms.map Prod.fst).drop k=lms[k].1::(lms.map Prod.fst).drop (k+1):=by
     rw[List.drop_eq_getElem_cons (by simpa using hkn)]
     simp
    have hr:=Aa HR;rw[hd,List.any_cons,Aa HBR,← his.cl,← his.nm]at hr;generalize lms[k].1=y at *;have hBx:Below wr.heap.size wr (wr.alloc (O12 o.cl o.nm o.pa o.pl o.pc o.r1 o.r2 o.lo o.st o.ca o.cn o.cc o.ha o.hl o.hc o.ma o.ml o.mc)):=QN _;have HIS:∀ w',Below wr.heap.size wr w'→o.is y w' bb:=fun w' h=>his.below h;have hsc:=fun w' (h1:Below w.heap.size w w') (h2:Below wr.heap.size wr w')=>Aa HSC o y w' h1 (HIS w' h2) hpo;have hbl:=fun w' (h1:Below w.heap.size w w')=>Aa HBL o.cl w' h1;clear his HIS;obtain⟨ocl,onm,opa,opl,opc,or1,or2,olo,ost,oca,ocn,occ,oha,ohl,ohc,oma,oml,omc⟩:=o;simp only at hrow hr hsc hbl hBx;obtain⟨y0,y1,y2,y3,y4,y5,y6,y7,y8,y9⟩:=hrow;generalize Aib y x=SC at *;generalize Tr.below T cl ocl=BL at *;have HSC2:=Ac hsc;have HBL2:=Ac hbl;have kb:(k:Int)<(lms.length:Int):=by omega
    have hB1:=hB.alloc hBs (O12 ocl onm opa opl opc or1 or2 olo ost oca ocn occ oha ohl ohc oma oml omc);have CM1:=Af CM (O12 ocl onm opa opl opc or1 or2 olo ost oca ocn occ oha ohl ohc oma oml omc);have CT1:=Af CT (O12 ocl onm opa opl opc or1 or2 olo ost oca ocn occ oha ohl ohc oma oml omc);have CO1:=Ad wr (O12 ocl onm opa opl opc or1 or2 olo ost oca ocn occ oha ohl ohc oma oml omc);clear hd HR hsc hbl;subst hg;by_cases h3:onm=nm
    ·subst h3;cases BL with
     | false =>
      have HG:Hid (((lms.map Prod.fst).drop (k+1)).any (Ag5 T x)=R):=by unfold Hid;rw[← hr];simp
      clear hr;go_wp2_with fail
      refine(Aa HBL2 _ hB1).mono ?_;rintro e w2 ⟨rfl,hb2⟩;have hB2:=QB hB1 hb2;have CM2:=stay hb2 CM1;have CT2:=stay hb2 CT1;clear m0 m1 m2 m3 m4 m5 m6 m7 m8 m9 t0 t1 y0 y1 y2 y3 y4 y5 y6 y7 y8 y9 CM CT;go_wp2
      go_roundw
      case rel=>exact⟨k+1,by omega,by go_num,HG,hB2,CT2,CM2⟩
      case measure=>simp[intOf];omega
     | true =>
      cases SC with
      | false =>
       have HE:Hid (R=true):=by unfold Hid;rw[← hr];simp
       clear hr;go_wp2_with fail
       refine(Aa HBL2 _ hB1).mono ?_;rintro e w2 ⟨rfl,hb2⟩;have hB2:=QB hB1 hb2;have hX2:=QB hBx hb2;have CM2:=stay hb2 CM1;have CO2:=stay hb2 CO1;clear m0 m1 m2 m3 m4 m5 m6 m7 m8 m9 t0 t1 y0 y1 y2 y3 y4 y5 y6 y7 y8 y9 CM CT;obtain⟨m0,m1,m2,m3,m4,m5,m6,m7,m8,m9⟩:=De CM2;simp at m0 m1 m2 m3 m4 m5 m6 m7 m8 m9;obtain⟨o0,o1,o2,o3,o4,o5,o6,o7,o8,o9⟩:=De CO2;simp at o0 o1 o2 o3 o4 o5 o6 o7 o8 o9;go_wp2_with fail
       refine(Aa HSC2 _ hB2 hX2).mono ?_;rintro e w3 ⟨rfl,hb3⟩;go_wp2;go_ret;exact⟨by rw[Aa HE];rfl,QB hB2 hb3⟩
      | true =>
       have HG:Hid (((lms.map Prod.fst).drop (k+1)).any (Ag5 T x)=R):=by unfold Hid;rw[← hr];simp
       clear hr;go_wp2_with fail
       refine(Aa HBL2 _ hB1).mono ?_;rintro e w2 ⟨rfl,hb2⟩;have hB2:=QB hB1 hb2;have hX2:=QB hBx hb2;have CM2:=stay hb2 CM1;have CT2:=stay hb2 CT1;have CO2:=stay hb2 CO1;clear m0 m1 m2 m3 m4 m5 m6 m7 m8 m9 t0 t1 y0 y1 y2 y3 y4 y5 y6 y7 y8 y9 CM CT;obtain⟨m0,m1,m2,m3,m4,m5,m6,m7,m8,m9⟩:=De CM2;simp at m0 m1 m2 m3 m4 m5 m6 m7 m8 m9;obtain⟨o0,o1,o2,o3,o4,o5,o6,o7,o8,o9⟩:=De CO2;simp at o0 o1 o2 o3 o4 o5 o6 o7 o8 o9;go_wp2_with fail
       refine(Aa HSC2 _ hB2 hX2).mono ?_;rintro e w3 ⟨rfl,hb3⟩;have hB3:=QB hB2 hb3;have CM3:=stay hb3 CM2;have CT3:=stay hb3 CT2;clear m0 m1 m2 m3 m4 m5 m6 m7 m8 m9 o0 o1 o2 o3 o4 o5 o6 o7 o8 o9;go_wp2
       go_roundw
       case rel=>exact⟨k+1,by omega,by go_num,HG,hB3,CT3,CM3⟩
       case measure=>simp[intOf];omega
    ·have HG:Hid (((lms.map Prod.fst).drop (k+1)).any (Ag5 T x)=R):=by unfold Hid;rw[← hr];simp[h3]
     have h3':(onm==nm)=false:=by simpa using h3
     clear hr h3;go_wp2
     go_roundw
     case rel=>exact⟨k+1,by omega,by go_num,HG,hB1,CT1,CM1⟩
     case measure=>simp[intOf];omega
   ·have HE:Hid (R=false):=by unfold Hid;rw[← Aa HR,List.drop_eq_nil_of_le (by simp;omega)];rfl
    have kb:¬ (k:Int)<(lms.length:Int):=by omega
    clear HR;go_wp2;go_ret;exact⟨by rw[Aa HE];rfl,hB⟩
theorem Xg (c:List Int):∀ x∈Cd.insts c,0≤x.place:=by
 intro x hx;unfold Cd.insts at hx;simp only[List.mem_map]at hx;obtain⟨p,_,rfl⟩:=hx;exact Int.natCast_nonneg p
theorem Vu (c:List Int) (k p:Nat):(Cd.starts c k p).length≤k:=by
 induction k generalizing p with
 | zero=>simp[Cd.starts]
 | succ j ih =>
  unfold Cd.starts
  split
  ·simp;exact ih _
  ·simp
theorem Jv (c:List Int):(Cd.insts c).length≤c.length:=by
 unfold Cd.insts Cd.places;rw[List.length_map];exact Vu _ _ _
theorem Wg (fa1 fa2:Option Addr) (fc1 fc2 tg tc:Nat) (ya:Option Addr) (yn yc:Nat) (cl nm:Int) (pa:Option Addr) (pl pc:Nat) (r1 r2 st:Int) (ca ha ma:Option Addr) (cc hc mc:Nat) (T:List Int)
  (bm:Nat) (lcs:List (Rd.Cls × Value)) (lms:List (Rd.Mth × MthV)) (m:Rd.Mth) (lmp:List (Rd.Mp × Value × Value)) (w:World)
  (hT:T.length≤1000) (hTr:TreeIn w tg T) (hm6:lms.length≤6) (hc6:lcs.length≤6) (hcf:∀ p∈lcs,p.1.fields.length≤1000)
  (hcs:ClssIn w bm (.slice fa1 lcs.length fc1) lcs) (hms:MthsIn w bm (.slice fa2 lms.length fc2) lms) (hbd:Aji m) (hmm:lmp.map Prod.fst=m.maps)
  (hco:IntsAt w bm (.slice ca m.code.length cc) m.code) (hha:HndsAt w bm (.slice ha m.handlers.length hc) m.handlers) (hmp:MpsIn w bm (.slice ma lmp.length mc) lmp) :
  Calls Tryz.prog 162 #[PBd.val ⟨fa1,lcs.length,fc1,fa2,lms.length,fc2,tg,tc,ya,yn,yc,cl,nm,pa,pl,pc,r1,r2,m.locals,st,ca,m.code.length,cc,ha,m.handlers.length,hc,ma,lmp.length,mc,none,0,T,[]⟩] w fun e w' =>
   e=.returned (.agg #[.int .i64 (Ah0 T (Cd.fieldSum (lcs.map Prod.fst):Int) (lms.map fun p=>p.1.cl) m).1,.int .i64 0,.int .i64 (Ah0 T (Cd.fieldSum (lcs.map Prod.fst):Int) (lms.map fun p=>p.1.cl) m).2])∧Below w.heap.size w w':=by
 have hlm:lmp.length≤64:=by have:=congrArg List.length hmm;simp only[List.length_map]at this;rw[this];exact hbd.mp
 have hfr:∀ p∈lmp,p.1.locals.length≤1000∧p.1.stack.length≤1000∧-1000≤p.1.place∧p.1.place≤1000:=by
  intro p hp;have:=hbd.fr p.1 (by rw[← hmm];exact List.mem_map_of_mem hp);omega
 have hcl:=hbd.code;have hhl:=hbd.hs;have hRd:=fun w' (h:Below w.heap.size w w')=>Ju m.code ca cc bm w' (by omega) hbd.code0 (hco.kp (Kp.of_below (e:=none) h) (by decide));generalize hL:Cd.insts m.code=L;have hLl:L.length≤120:=by rw[← hL];have:=Jv m.code;omega
 have hLp:∀ x∈L,0≤x.place:=by rw[← hL];exact Xg _
 have hI:=fun va vc bb p op n w' (h:Below w.heap.size w w') (hi:InsAt w' bb (.slice va L.length vc) L) =>
  Yg ⟨fa1,lcs.length,fc1,fa2,lms.length,fc2,tg,tc,ya,yn,yc,cl,nm,pa,pl,pc,r1,r2,m.locals,st,ca,m.code.length,cc,ha,m.handlers.length,hc,ma,lmp.length,mc,va,vc,T,L⟩ bb bm lcs lms p op n w' ⟨hT,by simp only;omega,hTr.below h,hi⟩ rfl rfl (by omega) hc6 hcf (hcs.kp (Kp.of_below (e:=none) h) (by decide) (by decide)) (hms.kp (Kp.of_below (e:=none) h) (by decide) (by decide) (by decide) (by decide) (by decide))
 have hH:=fun va vc bb x w' (h:Below w.heap.size w w') (hi:InsAt w' bb (.slice va L.length vc) L)=>Vv ⟨fa1,lcs.length,fc1,fa2,lms.length,fc2,tg,tc,ya,yn,yc,cl,nm,pa,pl,pc,r1,r2,m.locals,st,ca,m.code.length,cc,ha,m.handlers.length,hc,ma,lmp.length,mc,va,vc,T,L⟩ bb x w' ⟨hT,by simp only;omega,hTr.below h,hi⟩;have hM:=fun va vc bb w' (h:Below w.heap.size w w') (hi:InsAt w' bb (.slice va L.length vc) L) =>
  Wq ⟨fa1,lcs.length,fc1,fa2,lms.length,fc2,tg,tc,ya,yn,yc,cl,nm,pa,pl,pc,r1,r2,m.locals,st,ca,m.code.length,cc,ha,m.handlers.length,hc,ma,lmp.length,mc,va,vc,T,L⟩ bb bm lmp w' ⟨hT,by simp only;omega,hTr.below h,hi⟩ rfl (by omega) hfr (hmp.kp (Kp.of_below (e:=none) h) (by decide) (by decide))
 have HHA:∀ w',Below w.heap.size w w'→HndsAt w' bm (.slice ha m.handlers.length hc) m.handlers:=fun w' h=>hha.kp (Kp.of_below (e:=none) h) (by decide);unfold Cd.readL Cd.readP Cd.readB at hRd;unfold Ah0;rw[hL]at hRd ⊢;rw[hmm]at hM;simp only[PBd.val]at hI hH hM ⊢;generalize (Cd.fieldSum (lcs.map Prod.fst):Int)=nf at *;generalize (lms.map fun p=>p.1.cl)=ow at *;have hBI:∀ x,Ahv T nf ow m.locals L x = !Cd.argP T nf ow m.locals L x.op x.n:=fun x=>rfl;have hBH:∀ x,Aiq T L (m.code.length:Int) x = !Cd.hndMay T L (m.code.length:Int) x:=fun x=>rfl;generalize hq1:Ag4 (Ahv T nf ow m.locals L) L=q1;generalize hq2:Cd.firstIx (Aiq T L (m.code.length:Int)) 0 m.handlers=q2;generalize hq3:Cd.faultOf (Cd.inMaps T L 0 0 m.maps)=q3 at *;have HQ1:Hid (Ag4 (Ahv T nf ow m.locals L) (L.drop 0)=q1):=hq1;have HQ2:Hid (Cd.firstIx (Aiq T L (m.code.length:Int)) 0 (m.handlers.drop 0)=q2):=hq2;have HI:=Ac hI;have HH:=Ac hH;have HM:=Ac hM;have HRD:=Ac hRd;have HHA':=Ac HHA;have HBI:=Ac hBI;have HBH:=Ac hBH;have HLP:=Ac hLp;have hB0:=Ai w (O10 fa1 lcs.length fc1 fa2 lms.length fc2 (some ⟨tg,0,none⟩) T.length tc ya yn yc cl nm pa pl pc r1 r2 m.locals st ca m.code.length cc ha m.handlers.length hc ma lmp.length mc none 0 0) (O8 0 0 0);have CB0:=Ak w (O10 fa1 lcs.length fc1 fa2 lms.length fc2 (some ⟨tg,0,none⟩) T.length tc ya yn yc cl nm pa pl pc r1 r2 m.locals st ca m.code.length cc ha m.handlers.length hc ma lmp.length mc none 0 0) (O8 0 0 0);have CR0:=Ah w (O10 fa1 lcs.length fc1 fa2 lms.length fc2 (some ⟨tg,0,none⟩) T.length tc ya yn yc cl nm pa pl pc r1 r2 m.locals st ca m.code.length cc ha m.handlers.length hc ma lmp.length mc none 0 0) (O8 0 0 0);clear hq1 hq2 hq3 hI hH hM hRd HHA hBI hBH hLp hTr hcs hms hco hha hmp hfr hbd hcf hL;by_cases hu:0≤Cd.unread m.code
 ·rw[if_pos hu];have hrd:=Aa HRD _ hB0;rw[if_pos hu,if_pos hu,show decide (Cd.unread m.code<0)=false by simp;omega]at hrd;generalize Cd.unread m.code=u at *;have HR2:=Ac hrd;clear hrd HRD;go_enter Tryz.func162,Tryz.ntmps162;go_wp2_with fail
  refine(Aa HR2).mono ?_;rintro e w1 ⟨va,vc,rfl,_,hb1⟩;have hB1:=QB hB0 hb1;have CR1:=stay hb1 CR0;obtain⟨q0,q1,q2⟩:=fr3 CR1;obtain⟨z0,z1,z2⟩:=cl3 CR1;simp at z0 z1 z2;go_wp2_with fail
  refine bodyPost_ret (v:=.agg #[.int .i64 5,.int .i64 0,.int .i64 u]) (by simp[results,Tryz.results162,go_sem,z0,z1,z2]) rfl ?_;exact⟨rfl,((hB1.setCell (by simp) _).setCell (by simp) _).setCell (by simp) _⟩
 ·rw[if_neg hu];have hrd:=Aa HRD _ hB0;rw[if_neg hu,if_neg hu,show decide (Cd.unread m.code<0)=true by simp;omega]at hrd;have HR2:=Ac hrd;clear hrd HRD hu;generalize hF:(if 0≤q1 then ((5:Int),q1) else if 0≤q2 then (6,q2) else q3)=Fa
  have HF:=Ac hF;clear hF;go_enter Tryz.func162,Tryz.ntmps162;go_wp2_with fail
  refine(Aa HR2).mono ?_;rintro e w1 ⟨va,vc,rfl,hins,hb1⟩;have hB1:=QB hB0 hb1;have CR1:=stay hb1 CR0;have CB1:=stay hb1 CB0;have lB:=lt_of_block CB1;have f14:=Ag CB1 14;obtain⟨a0,a1,a2,a3,a4,a5,a6,a7,a8,a9,a10,a11,a12,a13,a14⟩:=Hl CB1;simp at a0 a1 a2 a3 a4 a5 a6 a7 a8 a9 a10 a11 a12 a13 a14;have CB2:(w1.setCell ⟨w.heap.size,14,none⟩ (.slice va L.length vc)).heap[w.heap.size]?=some (O10 fa1 lcs.length fc1 fa2 lms.length fc2 (some ⟨tg,0,none⟩) T.length tc ya yn yc cl nm pa pl pc r1 r2 m.locals st ca m.code.length cc ha m.handlers.length hc ma lmp.length mc va L.length vc):=by rw[Al CB1];rfl
  have CR2:(w1.setCell ⟨w.heap.size,14,none⟩ (.slice va L.length vc)).heap[w.heap.size+1]?=some (O8 0 0 0):=by
   rw[Below.heap_setCell _ _ _ _ (by simp)];exact CR1
  have hB2:=hB1.setCell (p:=⟨w.heap.size,14,none⟩) (by simp) (.slice va L.length vc);have hins2:InsAt (w1.setCell ⟨w.heap.size,14,none⟩ (.slice va L.length vc)) (w.heap.size+1+1) (.slice va L.length vc) L :=
   InsAt.kp (by simpa using hins) (Kp.set (b:=w.heap.size+1+1) (i:=14) CB1 (.slice va L.length vc)) (by decide)
  clear hins HR2 hB0 CB0 CR0;have m14:=Ab CB2 14;simp at m14;go_wp2
  go_loopw [27] (fun v wr=>∃ k:Nat,k≤L.length∧v=.int .i64 (k:Int)∧Hid (Ag4 (Ahv T nf ow m.locals L) (L.drop k)=q1)∧Below w.heap.size w wr ∧
    wr.heap[w.heap.size]?=some (O10 fa1 lcs.length fc1 fa2 lms.length fc2 (some ⟨tg,0,none⟩) T.length tc ya yn yc cl nm pa pl pc r1 r2 m.locals st ca m.code.length cc ha m.handlers.length hc ma lmp.length mc va L.length vc)∧wr.heap[w.heap.size+1]?=some (O8 0 0 0)∧InsAt wr (w.heap.size+1+1) (.slice va L.length vc) L)
   (fun v _=>L.length-(intOf v).toNat)
  case atStart=>exact⟨0,by omega,rfl,HQ1,hB2,CB2,CR2,hins2⟩
  case round =>
   clear HQ1 hB2 CB2 CR2 hins2 CB1 CR1 hB1 hb1 m14 a0 a1 a2 a3 a4 a5 a6 a7 a8 a9 a10 a11 a12 a13 a14 f14;obtain⟨k,hk,rfl,HQ,hB,CB,CR,hins⟩:=hrel;have hBs:=hB.size;have lB:=lt_of_block CB;have lR:=lt_of_block CR;obtain⟨m0,m1,m2,m3,m4,m5,m6,m7,m8,m9,m10,m11,m12,m13,m14⟩:=Hl CB;simp at m0 m1 m2 m3 m4 m5 m6 m7 m8 m9 m10 m11 m12 m13 m14;by_cases hkn:k<L.length
   ·obtain⟨g,hg,hglt,_,hcell⟩:=Ao hins (by omega);obtain⟨e1,e2,e3,e4⟩:=Hx L k hkn;have y0:=(hcell (k*3) (by omega)).trans e1;have y1:=(hcell (k*3+1) (by omega)).trans e2;have y2:=(hcell (k*3+2) (by omega)).trans e3;have hd:L.drop k=L[k]::L.drop (k+1):=List.drop_eq_getElem_cons hkn;have hq:=Aa HQ;rw[hd,Ag4,Aa HBI]at hq;have hpl:=Aa HLP _ (List.getElem_mem hkn);generalize L[k]=x at *;obtain⟨xp,xo,xn⟩:=x;simp only at y0 y1 y2 hq hpl;have hB1:=hB.alloc hBs (O9 xp xo xn);have hBx:Below wr.heap.size wr (wr.alloc (O9 xp xo xn)):=QN _;have hi1:=hins.kp (Kp.of_below (e:=none) hBx) (by decide);have hc:=Aa HI va vc _ xp xo xn _ hB1 hi1;generalize Cd.argP T nf ow m.locals L xo xn=A at *;have HC:=Ac hc;have HQQ:=Ac hq;have CX1:=Ad wr (O9 xp xo xn);have CB1:=Af CB (O9 xp xo xn);have CR1:=Af CR (O9 xp xo xn);have kb:(k:Int)<(L.length:Int):=by omega
    clear hc hq hd hcell e1 e2 e3 e4 HQ hBx;subst hg;cases A with
    | false =>
     have HE:Hid (Fa=(5,xp)):=by
      unfold Hid;have e:q1=xp:=by rw[← Aa HQQ];simp
      rw[← Aa HF,e,if_pos hpl]
     clear HQQ;go_wp2_with fail
     refine(Aa HC).mono ?_;rintro e w2 ⟨rfl,hb2⟩;have hB2:=QB hB1 hb2;have CR2:=stay hb2 CR1;have CX2:=stay hb2 CX1;have x0:=Ab CX2 0;obtain⟨q0,q1,q2⟩:=fr3 CR2;obtain⟨z0,z1,z2⟩:=cl3 CR2;simp at z0 z1 z2 x0;go_wp2_with fail
     refine bodyPost_ret (v:=.agg #[.int .i64 5,.int .i64 0,.int .i64 xp]) (by simp[results,Tryz.results162,go_sem,z0,z1,z2]) rfl ?_;rw[Aa HE];exact⟨rfl,((hB2.setCell (by simp) _).setCell (by simp) _).setCell (by simp) _⟩
    | true =>
     have HG:Hid (Ag4 (Ahv T nf ow m.locals L) (L.drop (k+1))=q1):=by unfold Hid;rw[← Aa HQQ];simp
     clear HQQ;go_wp2_with fail
     refine(Aa HC).mono ?_;rintro e w2 ⟨rfl,hb2⟩;have hB2:=QB hB1 hb2;have CB2:=stay hb2 CB1;have CR2:=stay hb2 CR1;have hi2:=hi1.kp (Kp.of_below (e:=none) hb2) (by decide);clear hb2 hB1 CB1 CR1 CX1 hB CB CR m0 m1 m2 m3 m4 m5 m6 m7 m8 m9 m10 m11 m12 m13 m14 y0 y1 y2 hi1 hins;go_wp2
     go_roundw
     case rel=>exact⟨k+1,by omega,by go_num,HG,hB2,CB2,CR2,hi2⟩
     case measure=>simp[intOf];omega
   ·have HF2:Hid ((if 0≤q2 then ((6:Int),q2) else q3)=Fa):=by
     unfold Hid;have e:q1 = -1:=by rw[← Aa HQ,List.drop_eq_nil_of_le (by omega)];rfl
     rw[← Aa HF,e];exact(if_neg (by omega)).symm
    have kb:¬ (k:Int)<(L.length:Int):=by omega
    clear HQ HF;go_wp2
    go_loopw [43] (fun v wr'=>∃ k:Nat,k≤m.handlers.length∧v=.int .i64 (k:Int)∧Hid (Cd.firstIx (Aiq T L (m.code.length:Int)) k (m.handlers.drop k)=q2)∧Below w.heap.size w wr' ∧
      wr'.heap[w.heap.size]?=some (O10 fa1 lcs.length fc1 fa2 lms.length fc2 (some ⟨tg,0,none⟩) T.length tc ya yn yc cl nm pa pl pc r1 r2 m.locals st ca m.code.length cc ha m.handlers.length hc ma lmp.length mc va L.length vc)∧wr'.heap[w.heap.size+1]?=some (O8 0 0 0)∧InsAt wr' (w.heap.size+1+1) (.slice va L.length vc) L)
     (fun v _=>m.handlers.length-(intOf v).toNat)
    case atStart=>exact⟨0,by omega,rfl,HQ2,hB,CB,CR,hins⟩
    case round =>
     clear HQ2 hB CB CR hins m0 m1 m2 m3 m4 m5 m6 m7 m8 m9 m10 m11 m12 m13 m14 kb hk hkn lB lR hBs;obtain⟨j,hk,rfl,HQ,hB,CB,CR,hins⟩:=hrel;have hBs:=hB.size;have lB:=lt_of_block CB;have lR:=lt_of_block CR;obtain⟨m0,m1,m2,m3,m4,m5,m6,m7,m8,m9,m10,m11,m12,m13,m14⟩:=Hl CB;simp at m0 m1 m2 m3 m4 m5 m6 m7 m8 m9 m10 m11 m12 m13 m14;by_cases hkn:j<m.handlers.length
     ·obtain⟨g,hg,hglt,_,hcell⟩:=Ao (Aa HHA' _ hB) (by omega);have y0:=(hcell _ (As m.handlers j hkn 0 (by omega)).2).trans (As m.handlers j hkn 0 (by omega)).1;have y1:=(hcell _ (As m.handlers j hkn 1 (by omega)).2).trans (As m.handlers j hkn 1 (by omega)).1;have y2:=(hcell _ (As m.handlers j hkn 2 (by omega)).2).trans (As m.handlers j hkn 2 (by omega)).1;have y3:=(hcell _ (As m.handlers j hkn 3 (by omega)).2).trans (As m.handlers j hkn 3 (by omega)).1;have hd:m.handlers.drop j=m.handlers[j]::m.handlers.drop (j+1):=List.drop_eq_getElem_cons hkn;have hq:=Aa HQ;rw[hd,Cd.firstIx,Aa HBH]at hq;generalize m.handlers[j]=x at *;obtain⟨x1,x2,x3,x4⟩:=x;simp at y0 y1 y2 y3;have hB1:=hB.alloc hBs (O13 x1 x2 x3 x4);have hBx:Below wr.heap.size wr (wr.alloc (O13 x1 x2 x3 x4)):=QN _;have hi1:=hins.kp (Kp.of_below (e:=none) hBx) (by decide);have hc:=Aa HH va vc _ ⟨x1,x2,x3,x4⟩ _ hB1 hi1;simp only at hc;generalize Cd.hndMay T L (m.code.length:Int) ⟨x1,x2,x3,x4⟩=A at *;have HC:=Ac hc;have HQQ:=Ac hq;have CB1:=Af CB (O13 x1 x2 x3 x4);have CR1:=Af CR (O13 x1 x2 x3 x4);have kb:(j:Int)<(m.handlers.length:Int):=by omega
      clear hc hq hd hcell HQ hBx;subst hg;cases A with
      | false =>
       have HE:Hid (Fa=(6,(j:Int))):=by
        unfold Hid;have e:q2=(j:Int):=by rw[← Aa HQQ];simp
        rw[← Aa HF2,e,if_pos (by omega)]
       clear HQQ;go_wp2_with fail
       refine(Aa HC).mono ?_;rintro e w2 ⟨rfl,hb2⟩;have hB2:=QB hB1 hb2;have CR2:=stay hb2 CR1;obtain⟨q0,q1,q2⟩:=fr3 CR2;obtain⟨z0,z1,z2⟩:=cl3 CR2;simp at z0 z1 z2;go_wp2_with fail
       refine bodyPost_ret (v:=.agg #[.int .i64 6,.int .i64 0,.int .i64 (j:Int)]) (by simp[results,Tryz.results162,go_sem,z0,z1,z2]) rfl ?_;rw[Aa HE];exact⟨rfl,((hB2.setCell (by simp) _).setCell (by simp) _).setCell (by simp) _⟩
      | true =>
       have HG:Hid (Cd.firstIx (Aiq T L (m.code.length:Int)) (j+1) (m.handlers.drop (j+1))=q2):=by unfold Hid;rw[← Aa HQQ];simp
       clear HQQ;go_wp2_with fail
       refine(Aa HC).mono ?_;rintro e w2 ⟨rfl,hb2⟩;have hB2:=QB hB1 hb2;have CB2:=stay hb2 CB1;have CR2:=stay hb2 CR1;have hi2:=hi1.kp (Kp.of_below (e:=none) hb2) (by decide);clear hb2 hB1 CB1 CR1 hB CB CR m0 m1 m2 m3 m4 m5 m6 m7 m8 m9 m10 m11 m12 m13 m14 y0 y1 y2 y3 hi1 hins;go_wp2
       go_roundw
       case rel=>exact⟨j+1,by omega,by go_num,HG,hB2,CB2,CR2,hi2⟩
       case measure=>simp[intOf];omega
     ·have HE:Hid (q3=Fa):=by
       unfold Hid;have e:q2 = -1:=by rw[← Aa HQ,List.drop_eq_nil_of_le (by omega)];rfl
       rw[← Aa HF2,e,if_neg (by omega)]
      have kb:¬ (j:Int)<(m.handlers.length:Int):=by omega
      have hm:=Aa HM va vc _ _ hB hins;have HMM:=Ac hm;clear hm HQ;go_wp2_with fail
      refine(Aa HMM).mono ?_;rintro e w2 ⟨rfl,hb2⟩;have hB2:=hB.trans (hb2.mono hBs);have CR2:=stay hb2 CR;obtain⟨q0,q1,q2⟩:=fr3 CR2;obtain⟨z0,z1,z2⟩:=cl3 CR2;simp at z0 z1 z2;go_wp2_with fail
      refine bodyPost_ret (v:=.agg #[.int .i64 q3.1,.int .i64 0,.int .i64 q3.2]) (by simp[results,Tryz.results162,go_sem,z0,z1,z2]) rfl ?_;rw[Aa HE];exact⟨rfl,((hB2.setCell (by simp) _).setCell (by simp) _).setCell (by simp) _⟩
def Afe (n:Int):UInt8:=UInt8.ofNat (n % 256).toNat
def Ahc (t:Int × Int):List UInt8:=[Afe t.1,Afe t.2]
def Afz (l:List (Int × Int)):List UInt8:=l.flatMap Ahc
def Aha (c:Rd.Cls):List UInt8:=Afe c.above::Afe (c.fields.length:Int)::Afz c.fields
def Aho (h:Rd.Hnd):List UInt8:=[Afe h.frm,Afe h.til,Afe h.target,Afe h.cl]
def Ahj (l:List Rd.Hnd):List UInt8:=Afe (l.length:Int)::l.flatMap Aho
def Ag0 (m:Rd.Mp):List UInt8:=Afe m.place::(Afz m.locals++Afe (m.stack.length:Int)::Afz m.stack)
def Aie (l:List Rd.Mp):List UInt8:=Afe (l.length:Int)::l.flatMap Ag0
def Ai8 (m:Rd.Mth):List UInt8 :=
 [Afe m.cl,Afe m.name,Afe (m.params.length:Int)]++Afz m.params++Ahc m.result++[Afe m.locals,Afe m.stack,Afe (m.code.length:Int)]++m.code.map Afe++Ahj m.handlers
def Agl (m:Rd.Mth):List UInt8:=Ai8 m++Aie m.maps
def Ai0 (cs:List Rd.Cls) (n:Int):List UInt8:=[83,77,Afe (cs.length:Int)]++cs.flatMap Aha++[Afe n]
def Agd (f:Rd.Fil):List UInt8:=Ai0 f.classes (f.methods.length:Int)++f.methods.flatMap Agl
end Go.Proofs.YtpcgnjolfahacaaGreat
