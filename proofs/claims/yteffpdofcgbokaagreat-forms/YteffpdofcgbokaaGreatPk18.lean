/-
  Of a file without an error of form: what the program finds in a method is what the document finds.
-/
import Derived.Test.YteffpdofcgbokaaGreatPk17

namespace Go.Proofs.YteffpdofcgbokaaGreat

theorem readL_eq {c:List Int} (h:Cd.unread c < 0):Cd.readL c=Cd.insts c:=by
 unfold Cd.readL
 rw [if_neg (by omega)]
theorem begB_mem {c:List Int}{q:Int} (h:Cd.begB c q=true):q.toNat∈Cd.places c:=by
 unfold Cd.begB at h
 rw [List.any_eq_true] at h
 obtain ⟨p,hp,hn⟩:=h
 have:(p:Int)=q:=by simpa using hn
 rw [← this,Int.toNat_natCast]
 exact hp
theorem isNew_iff {c:List Int} (hu:Cd.unread c < 0) {q:Int} (h:Ck.isN c q) (n:Int):Pk.isNew (Cd.readL c) n q=true↔Cd.atI c (q+1)=n:=by
 rw [readL_eq hu]
 have hb:=begB_lt h.1
 have h1:(Cd.findAt q (Cd.insts c)).isSome=true:=by rw [Cd.find_beg]; exact h.1
 have h2:=(Cd.find_at c q (Cd.places c) h1).1
 have h3:=unread_all hu _ (begB_mem h.1)
 rw [h.2] at h3
 have hw:Cd.wd (c.getD q.toNat 0)=2:=by rw [h.2]; rfl
 have h4:=ins_n (c:=c) (p:=q.toNat) (by rw [h.2]; exact h3.2) hw
 unfold Pk.isNew
 rw [h1]
 unfold Cd.insts
 rw [h2,h4.1]
 have e:(Cd.insAt c q.toNat).op=15:=h.2
 have e2:((q.toNat:Nat):Int)=q:=by omega
 rw [e,e2]
 simp

theorem rule_P {cs:List Rd.Cls}{ms:List Rd.Mth} (k:Fm.Ok cs ms) {m:Rd.Mth} (hm:m∈ms) {p:Nat} (hp:p∈Cd.places m.code) {x y:Ck.Fr} (hx:Ck.P (Tr.tree cs) m x) (h:Ck.mRule cs ms m p x=some y):Ck.P (Tr.tree cs) m y:=by
 have g:=k.mt m hm
 have hn:=num_at g hp
 unfold Ck.mRule at h
 rw [moved_L] at h
 refine rule_inv _ _ _ _ _ _ _ _ _ hx (leaves_ok k hn) (fun h2=>?_) (fun h15=>?_) (fun h16=>hn.cls (by omega)) h
 ·have:=hn.loc (.inl h2)
  have:=g.rd.lo
  omega
 ·have hb:Cd.begB m.code (p:Int)=true:=by
   unfold Cd.begB
   rw [List.any_eq_true]
   exact ⟨p,hp,by simp⟩
  have:=begB_lt hb
  have:=g.bd.code
  exact ⟨.inr (.inr (.inr (.inr ⟨rfl,by simp,by simp; omega⟩))),fun _=>⟨hb,by simpa using h15⟩⟩
theorem behind_rule {cs:List Rd.Cls}{ms:List Rd.Mth} (k:Fm.Ok cs ms) {m:Rd.Mth} (hm:m∈ms) {p:Nat} (hp:p∈Cd.places m.code) {x:Ck.Fr} (hx:Ck.P (Tr.tree cs) m x):Pk.mBehind cs ms m (Cd.insAt m.code p) x=Ck.mRule cs ms m p x:=by
 have g:=k.mt m hm
 have hT:=tree_len cs
 have hfl:=flds_len cs
 obtain ⟨h25,hw⟩:=unread_all g.unread p hp
 have hn:=num_at g hp
 have e0:(Cd.insAt m.code p).op=m.code.getD p 0:=rfl
 have e1:(Cd.insAt m.code p).place=(p:Int):=rfl
 -- the number as the program has it
 have hN:Ck.mRule cs ms m p x=Ck.rule m.stack (Ck.moved (Tr.tree cs) (Ck.flds cs) ms (fun c=>Rf.all (Tr.tree cs) (Rf.given ++ cs) c.toNat) (fun q=>Cd.atI m.code (q+1)) m.result (p:Int) (m.code.getD p 0) (Cd.insAt m.code p).n x):=by
  unfold Ck.mRule
  have hwb:=Cd.wd_bd (m.code.getD p 0)
  by_cases h2:Cd.wd (m.code.getD p 0)=2
  ·rw [(ins_n hw h2).1]
  ·rw [moved_n (show Cd.wd (m.code.getD p 0)=1 by omega)]
 have hnn:Fm.Num (Tr.tree cs) (Cd.fieldSum cs:Int) ms m (m.code.getD p 0) (Cd.insAt m.code p).n:=by
  have hwb:=Cd.wd_bd (m.code.getD p 0)
  by_cases h2:Cd.wd (m.code.getD p 0)=2
  ·rw [(ins_n hw h2).1]; exact hn
  ·have h':¬ (m.code.getD p 0=0∨m.code.getD p 0=2∨m.code.getD p 0=3∨(11≤m.code.getD p 0∧m.code.getD p 0≤21)):=by
    intro gg
    unfold Cd.wd at h2
    rw [if_pos gg] at h2
    exact h2 rfl
   exact ⟨fun h=>by omega,fun h=>by omega,fun h=>by omega,fun h=>by omega,fun h=>by omega⟩
 have hpos:0≤(Cd.insAt m.code p).n:=by
  unfold Cd.insAt
  simp only
  split
  ·exact getD_pos g.bd.code0 _
  ·omega
 obtain ⟨n,en⟩:∃ n:Nat,(Cd.insAt m.code p).n=(n:Int):=⟨(Cd.insAt m.code p).n.toNat,by omega⟩
 rw [hN]
 unfold Pk.mBehind
 rw [e0,e1,en]
 rw [en] at hnn
 clear hN hn e0 e1 en hpos
 generalize hop:m.code.getD p 0=op at *
 have hl7:7≤(Rf.given ++ cs).length:=by simp [given_len]
 have hlc:(Rf.given ++ cs).length - 7=cs.length:=by simp [given_len]
 have hgl:(Rf.given ++ cs).length=7+cs.length:=by simp [given_len]
 have hF:Ck.flds cs=Rf.fieldsTo (Tr.tree cs) (Rf.given ++ cs) ((Rf.given ++ cs).length - 7):=by rw [hlc]; rfl
 have t1:Pk.takes (Pk.mFs cs) ms m.result op (n:Int)=Ck.takes (Ck.flds cs) ms m.result op (n:Int):=by
  rw [hF]
  refine takes_eq _ _ hl7 (given_fields cs) _ _ _ _ (fun h=>?_)
  have:=hnn.fld h
  rw [← hF]; omega
 have t2:Pk.leaves (Pk.mFs cs) ms op (n:Int)=Ck.leaves (Ck.flds cs) ms op (n:Int):=by
  rw [hF]
  refine leaves_eq _ _ hl7 (given_fields cs) _ _ _ (fun h=>?_)
  have:=hnn.fld (.inl h)
  rw [← hF]; omega
 rw [moved_L,t1,t2,← behind_eq k.ok (isNew:=Pk.isNew (Cd.readL m.code) (n:Int)) (want:=Rf.all (Tr.tree cs) (Rf.given ++ cs) (n:Int).toNat)]
 ·-- only Init wants the fields
  by_cases h16:op=16
  ·have:=hnn.cls (by omega)
   rw [show Pk.mFs cs=(Rf.given ++ cs).map Rd.Cls.fields from rfl,fieldsOf_eq k.ok (Rf.given ++ cs) (by omega) (by omega),Int.toNat_natCast]
  ·unfold Pk.behind Pk.works
   simp only [if_neg h16]
 ·exact fun t ht=>(hx.ts t ht).1
 ·exact takes_arg k hm hnn
 ·exact fun t ht=>(plain_arg (all_plain k.fl _ _ t ht)).1
 ·exact leaves_len _ _ _ _
 ·exact hx.hi
 ·intro h
  have:=hnn.loc h
  have:=hx.lo
  have:=g.rd.lo
  omega
 ·intro _ t ht h4
  exact isNew_iff g.unread ((hx.ts t ht).2 h4) _

theorem look_some {T:List Int}{mp:Int→Option Ck.Fr}{H:Int}{R:Option Ck.Fr}{op n nxt len:Int} (h:Ck.look T mp H R op n nxt len=0):∃ y,R=some y:=by
 unfold Ck.look at h
 by_cases h0:H ≠ 0
 ·rw [if_pos h0] at h; exact absurd h h0
 ·rw [if_neg h0] at h
  cases R with
  | none=>simp at h
  | some y=>exact ⟨y,rfl⟩
theorem hnd_arg {T:List Int}{nf:Int}{ms:List Rd.Mth}{m:Rd.Mth} (g:Fm.Good T nf ms m):∀ h∈m.handlers,Tr.Arg T 3 h.cl:=by
 intro h hh
 have:=g.hnd h hh
 unfold Cd.hndBad at this
 simp only [Bool.or_eq_false_iff,Bool.not_eq_false'] at this
 exact ref_arg (has_iff.1 this.1.2)
theorem look_same {cs:List Rd.Cls}{ms:List Rd.Mth} (k:Fm.Ok cs ms) {m:Rd.Mth} (hm:m∈ms) {p:Nat} (hp:p∈Cd.places m.code) {x:Ck.Fr} (hx:Ck.P (Tr.tree cs) m x):Pk.mLook cs ms m (Cd.insAt m.code p) x=Ck.mLook cs ms m p x:=by
 have g:=k.mt m hm
 obtain ⟨h25,hw⟩:=unread_all g.unread p hp
 have hmp:∀ q z,Ck.mMap m q=some z→Ck.argF (Tr.tree cs) z:=fun q z h=>P_arg (map_P g h)
 unfold Pk.mLook Ck.mLook
 have e0:(Cd.insAt m.code p).op=m.code.getD p 0:=rfl
 have e1:(Cd.insAt m.code p).place=(p:Int):=rfl
 rw [behind_rule k hm hp hx,e0,e1,Int.toNat_natCast,handlers_eq k.ok _ hmp _ _ (fun t ht=>(hx.tl t ht).1) _ (hnd_arg g),
  look_eq k.ok _ hmp _ _ (fun y hy=>P_arg (rule_P k hm hp hx hy))]
 have hwb:=Cd.wd_bd (m.code.getD p 0)
 by_cases h2:Cd.wd (m.code.getD p 0)=2
 ·rw [(ins_n hw h2).1]
 ·exact look_n (by omega) _ _
/-- what the program finds in a method is what the document finds -/
theorem find_same {cs:List Rd.Cls}{ms:List Rd.Mth} (k:Fm.Ok cs ms) {m:Rd.Mth} (hm:m∈ms):Pk.mFind cs ms m=Ck.mChecked cs ms m:=by
 have g:=k.mt m hm
 unfold Pk.mFind Ck.mChecked Ck.mAhead
 rw [readL_eq g.unread]
 refine find_checked k.ok (Ck.mMap m) (Ck.mRule cs ms m) (Ck.mLook cs ms m) m.code (Pk.mLook cs ms m) (Pk.mBehind cs ms m) (Ck.P (Tr.tree cs) m) (fun x h=>P_arg h) (fun q z h=>map_P g h) (Ck.mStart m) (start_P g) ?_
 intro p hp x hx
 refine ⟨look_same k hm hp hx,fun h0=>?_⟩
 obtain ⟨y,hy⟩:=look_some h0
 exact ⟨y,hy,by rw [behind_rule k hm hp hx,hy],rule_P k hm hp hx hy⟩
end Go.Proofs.YteffpdofcgbokaaGreat

/-
  The document's Check, of every file.
-/
namespace Go.Proofs.YteffpdofcgbokaaGreat
open Go.RowKit

/-- what the document's functions are handed, of a file without an error of form -/
structure Ck.At (cs:List Rd.Cls) (ms:List Rd.Mth) (f:RFl) (m:RMV) (y:Rf.Mth) (w:World):Prop where
 k:Fm.Ok cs ms
 ok:f.ok w
 l:f.l.map Prod.fst=Rf.given ++ cs
 eq:f.ms.map (fun z=>z.1.m)=ms
 mem:y.m∈ms
 is:m.is y w f.bb
theorem Ck.At.below {cs:List Rd.Cls}{ms:List Rd.Mth}{f:RFl}{m:RMV}{y:Rf.Mth}{w w':World} (h:Ck.At cs ms f m y w) (hb:Below w.heap.size w w'):Ck.At cs ms f m y w':=⟨h.k,h.ok.below hb,h.l,h.eq,h.mem,h.is.below hb⟩
theorem Ck.At.T {cs:List Rd.Cls}{ms:List Rd.Mth}{f:RFl}{m:RMV}{y:Rf.Mth}{w:World} (h:Ck.At cs ms f m y w):f.T=Tr.tree cs:=(given_supers f.l cs h.l).1
theorem Ck.At.F {cs:List Rd.Cls}{ms:List Rd.Mth}{f:RFl}{m:RMV}{y:Rf.Mth}{w:World} (h:Ck.At cs ms f m y w):f.fields=Ck.flds cs:=by
 obtain ⟨eT0,_,eL⟩:=given_supers f.l cs h.l
 unfold RFl.fields Ck.flds
 rw [eT0,h.l,eL,show 7+cs.length - 7=cs.length by omega]
theorem Ck.At.size {cs:List Rd.Cls}{ms:List Rd.Mth}{f:RFl}{m:RMV}{y:Rf.Mth}{w:World} (h:Ck.At cs ms f m y w):m.code.size=y.m.code.length:=by rw [← h.is.code,nums_len]
theorem rmapAt_good {cs:List Rd.Cls}{ms:List Rd.Mth}{f:RFl}{m:RMV}{y:Rf.Mth}{w:World} (h:Ck.At cs ms f m y w) (q:Int) :
  Calls Tryz.prog 83 #[m.val,.int .i64 q] w fun e w''=>∃ u:FrV,e=.returned (.tuple #[u.val,.bool (Ck.mMap y.m q).isSome])∧u.is (Ck.orNone (Ck.mMap y.m q)) w''∧Below w.heap.size w w'':=by
 have g:=h.k.mt y.m h.mem
 obtain ⟨lm,elm,hmp⟩:=h.is.mp
 have hlm:lm.length=y.m.maps.length:=by rw [← elm]; simp
 have h64:=g.bd.mp
 have hfr:∀ q∈lm,q.1.locals.length≤5000∧q.1.stack.length≤5000:=fun q hq=>by
  have:q.1∈y.m.maps:=by rw [← elm]; exact List.mem_map.2 ⟨q,hq,rfl⟩
  have:=g.bd.fr _ this
  omega
 have:=rmapAt_any m lm f.bb q w (by rw [h.is.ml]; exact hlm.symm) (by omega) hfr hmp
 rw [elm] at this
 exact this
theorem rstart_good {cs:List Rd.Cls}{ms:List Rd.Mth}{f:RFl}{m:RMV}{y:Rf.Mth}{w:World} (h:Ck.At cs ms f m y w) :
  Calls Tryz.prog 85 #[m.val] w fun e w''=>∃ u:FrV,e=.returned u.val∧u.is (Ck.mStart y.m) w''∧Below w.heap.size w w'':=by
 have g:=h.k.mt y.m h.mem
 have hlo:=g.rd.lo
 have:=rstart_any m y.m.params y.m.locals.toNat w (by rw [h.is.lo]; omega) (by omega) (TyR.of_tys h.is.ps) (by have:=g.bd.ps; omega)
 rw [h.is.cl] at this
 exact this
theorem rrule_good {cs:List Rd.Cls}{ms:List Rd.Mth}{f:RFl}{m:RMV}{y:Rf.Mth}{w:World} (h:Ck.At cs ms f m y w) (q:Nat) (v:FrV) (x:Ck.Fr) (hq:q∈Cd.places y.m.code) (hv:v.is x w) (hx:Ck.P (Tr.tree cs) y.m x) :
  Calls Tryz.prog 127 #[f.val,m.val,.int .i64 (q:Int),v.val] w fun e w''=>∃ u:FrV,e=.returned (.tuple #[u.val,.bool (Ck.mRule cs ms y.m q x).isSome])∧(∀ z,Ck.mRule cs ms y.m q x=some z→u.is z w'')∧Below w.heap.size w w'':=by
 have g:=h.k.mt y.m h.mem
 have hm:=h.is
 have eT:=h.T
 have eF:=h.F
 have hms:=h.eq
 have hl:=h.l
 have ec:=h.is.code
 have esz:=h.size
 have h120:=g.bd.code
 have hs:m.code.size≤100000:=by omega
 have hfl:=flds_len cs
 have hTl:=tree_len cs
 have eL:=(given_supers f.l cs h.l).2.2
 have eml:f.ms.length=ms.length:=by rw [← hms]; simp
 have er:(m.r1,m.r2)=y.m.result:=by rw [hm.r1,hm.r2]
 have hpl:∀ z∈f.ms,z.1.m.params.length≤1000:=fun z hz=>by
  have:z.1.m∈ms:=by rw [← hms]; exact List.mem_map.2 ⟨z,hz,rfl⟩
  have:=(h.k.mt _ this).bd.ps
  omega
 have hn:=num_at g hq
 have hql:q < y.m.code.length:=starts_lt hq
 have hlo:=g.rd.lo
 have hst:=g.rd.st
 have hMv:=fun w' (hb:Below w.heap.size w w')=>rmoved_any f m q v x w' (h.ok.below hb) (by omega) hs (hv.below hb) (by rw [hx.lo]; omega) (by have:=hx.hi; omega)
  (fun t ht h4=>by have:=begB_lt ((hx.ts t ht).2 h4).1; omega) hpl (by rw [ec,atI_eq,ec]; intro h; have:=hn.fld h; rw [eF]; omega) (by rw [ec,atI_eq,ec]; intro h; have:=hn.mth h; omega)
  (by rw [ec,atI_eq,ec]; intro h; have:=hn.loc h; have:=hx.lo; omega) (by rw [ec,atI_eq,ec]; intro h; have:=hn.cls (.inr (.inl h)); omega)
 have hR:=rrule_any f m q v _ w hMv
 have e:Ck.rule m.st (Ck.moved f.T f.fields (f.ms.map fun x=>x.1.m) (fun c=>Rf.all f.T (f.l.map Prod.fst) c.toNat) (fun q=>Rf.at' m.code.data.toList (q+1)) (m.r1,m.r2) (q:Int) ((nums m.code).getD q 0) (Rf.at' m.code.data.toList ((q:Int)+1)) x)=Ck.mRule cs ms y.m q x:=by
  unfold Ck.mRule
  simp only [atI_eq]
  rw [hm.st,eT,eF,hms,hl,er,ec]
 rw [e] at hR
 exact hR
theorem rlook_good {cs:List Rd.Cls}{ms:List Rd.Mth}{f:RFl}{m:RMV}{y:Rf.Mth}{w:World} (h:Ck.At cs ms f m y w) (q:Nat) (v:FrV) (x:Ck.Fr) (hq:q∈Cd.places y.m.code) (hv:v.is x w) (hx:Ck.P (Tr.tree cs) y.m x) :
  Calls Tryz.prog 87 #[f.val,m.val,.int .i64 (q:Int),v.val] w fun e w''=>e=.returned (.int .i64 (Ck.mLook cs ms y.m q x))∧Below w.heap.size w w'':=by
 have g:=h.k.mt y.m h.mem
 have ec:=h.is.code
 have esz:=h.size
 have h120:=g.bd.code
 have hs:m.code.size≤100000:=by omega
 have hql:q < y.m.code.length:=starts_lt hq
 have hFA:=RFl.fitsAs h.ok
 rw [h.T] at hFA
 have hh4:=g.bd.hs
 have hH:=fun w' (hb:Below w.heap.size w w')=>rhandlers_any f.v (Tr.tree cs) m y.m.handlers f.bb (Ck.mMap y.m) (q:Int) v x w' (hFA.below hb) h.is.hl (by omega) (h.is.below hb).hs (fun q w3 hb3=>rmapAt_good (h.below (hb.trans (hb3.mono hb.size))) q) (hv.below hb)
 have:=rlook_any f.v (Tr.tree cs) m q (Ck.mMap y.m) (Ck.handlers (Tr.tree cs) (Ck.mMap y.m) (q:Int) x.locals y.m.handlers) (Ck.mRule cs ms y.m q x) v w hFA (by omega) hs hH
  (fun w' hb=>rrule_good (h.below hb) q v x hq (hv.below hb) hx)
  (fun q w' hb=>rmapAt_good (h.below hb) q)
 rw [atI_eq,ec,esz] at this
 exact this
theorem rahead_good {cs:List Rd.Cls}{ms:List Rd.Mth}{f:RFl}{m:RMV}{y:Rf.Mth}{w:World} (h:Ck.At cs ms f m y w) (q:Nat) (hq:q≤100000) :
  Calls Tryz.prog 86 #[f.val,m.val,.int .i64 (q:Int)] w fun e w''=>∃ u:FrV,e=.returned (.tuple #[u.val,.bool (Ck.mAhead cs ms y.m q).isSome])∧(∀ z,Ck.mAhead cs ms y.m q=some z→u.is z w''∧Ck.P (Tr.tree cs) y.m z)∧Below w.heap.size w w'':=by
 have g:=h.k.mt y.m h.mem
 have ec:=h.is.code
 have esz:=h.size
 have h120:=g.bd.code
 have hs:m.code.size≤100000:=by omega
 have:=rahead_any f.v m q (fun p=>Ck.mMap y.m (p:Int)) (Ck.mRule cs ms y.m) (Ck.mStart y.m) (Ck.P (Tr.tree cs) y.m) w hs hq (fun w' hb=>rstart_good (h.below hb)) (fun q w' hb=>rmapAt_good (h.below hb) q)
  (fun q v x w' hb hq2 hv hx=>by rw [ec] at hq2; exact rrule_good (h.below hb) q v x hq2 hv hx) (start_P g) (fun q z h=>map_P g h) (fun q x z hq2 hx hh=>by rw [ec] at hq2; exact rule_P h.k h.mem hq2 hx hh)
 rw [ec] at this
 exact this
theorem rchecked_good {cs:List Rd.Cls}{ms:List Rd.Mth}{f:RFl}{m:RMV}{y:Rf.Mth}{w:World} (h:Ck.At cs ms f m y w) :
  Calls Tryz.prog 52 #[f.val,m.val] w fun e w'=>e=.returned (.tuple #[.int .i64 (Ck.mChecked cs ms y.m).1,.int .i64 (Ck.mChecked cs ms y.m).2])∧Below w.heap.size w w':=by
 have g:=h.k.mt y.m h.mem
 have ec:=h.is.code
 have esz:=h.size
 have h120:=g.bd.code
 have hs:m.code.size≤100000:=by omega
 have hFA:=RFl.fitsAs h.ok
 rw [h.T] at hFA
 have:=rchecked_any f.v (Tr.tree cs) m (fun p=>Ck.mMap y.m (p:Int)) (Ck.mStart y.m) (Ck.P (Tr.tree cs) y.m) (Ck.mAhead cs ms y.m) (Ck.mLook cs ms y.m) w hs hFA (fun w' hb=>rstart_good (h.below hb)) (fun q w' hb=>rmapAt_good (h.below hb) q)
  (fun q w' hb hq=>rahead_good (h.below hb) q hq) (fun q v x w' hb hq hv hx=>by rw [ec] at hq; exact rlook_good (h.below hb) q v x hq hv hx)
 rw [ec] at this
 exact this

/-- what the document's Check tells of a file -/
def Ck.all (s:List UInt8):Int × Int × Int:=Ck.check (Rf.formed s) (Ck.firstOf (Ck.mChecked (Rd.read s).1.classes (Rd.read s).1.methods) 0 (Rd.read s).1.methods)
set_option maxRecDepth 100000 in
set_option maxHeartbeats 4000000 in
theorem rCheck_all (s:ByteArray) (w:World) (hs:s.size≤maxLen) :
  Calls Tryz.prog 31 #[.string s] w fun e w'=>e=.returned (.tuple #[.int .i64 (Ck.all s.data.toList).1,.int .i64 (Ck.all s.data.toList).2.1,.int .i64 (Ck.all s.data.toList).2.2])∧Below w.heap.size w w':=by
 have h:=rCheck_any s (Ck.mChecked (Rd.read s.data.toList).1.classes (Rd.read s.data.toList).1.methods) w hs (fun h0 f m x w' hb hf hl hms hx hm=>by
  obtain ⟨k,e1,e2⟩:=formed_good _ h0
  rw [e1] at hl
  refine rchecked_good ⟨k,hf,hl,?_,?_,hm⟩
  ·rw [← e2,← hms,List.map_map]; rfl
  ·rw [← e2]; exact List.mem_map.2 ⟨x,hx,rfl⟩)
 by_cases h0:(Rf.formed s.data.toList).1=0
 ·rw [(formed_good _ h0).2.2] at h
  exact h
 ·have e:∀ V,Ck.check (Rf.formed s.data.toList) V=Rf.formed s.data.toList:=fun V=>by unfold Ck.check; rw [if_pos h0]
  unfold Ck.all
  rw [e]
  rw [e] at h
  exact h
end Go.Proofs.YteffpdofcgbokaaGreat

/-
  The program's Check, of every file.
-/
namespace Go.Proofs.YteffpdofcgbokaaGreat
open Go.RowKit

/-- the tree's lists of fields, with where they lie -/
def Pk.fl (lcs:List (Rd.Cls × Value)):List (Value × List (Int × Int)):=List.replicate 7 (.slice none 0 0,[]) ++ lcs.map fun p=>(p.2,p.1.fields)
theorem fl_fst (lcs:List (Rd.Cls × Value)):(Pk.fl lcs).map Prod.fst=Tr.fvals lcs:=by
 unfold Pk.fl Tr.fvals
 rw [List.map_append,List.map_replicate,List.map_map]
 rfl
theorem fl_snd (lcs:List (Rd.Cls × Value)):(Pk.fl lcs).map Prod.snd=Pk.mFs (lcs.map Prod.fst):=by
 unfold Pk.fl Pk.mFs
 rw [List.map_append,List.map_replicate,List.map_map,List.map_append,List.map_map]
 rfl
theorem fl_len (lcs:List (Rd.Cls × Value)):(Pk.fl lcs).length=7+lcs.length:=by unfold Pk.fl; simp; omega

theorem getD_le {c:List Int} (h:∀ x∈c,x≤255) (i:Nat):c.getD i 0≤255:=by
 by_cases hi:i < c.length
 ·exact h _ (getD_mem hi)
 ·rw [List.getD_eq_getElem?_getD,List.getElem?_eq_none (by omega)]; simp

/-- what the program's functions are handed of a method, of a file without an error of form -/
structure Pk.At (cs:List Rd.Cls) (ms:List Rd.Mth) (lcs:List (Rd.Cls × Value)) (lms:List (Rd.Mth × MthV)) (b:PBd) (m:Rd.Mth) (bm:Nat) (w:World):Prop where
 k:Fm.Ok cs ms
 ec:lcs.map Prod.fst=cs
 em:lms.map Prod.fst=ms
 mem:m∈ms
 T:b.T=Tr.tree cs
 L:b.L=Cd.readL m.code
 ru:Ru b w 0 lms (Pk.fl lcs)
 is:(⟨b.cl,b.nm,b.pa,b.pl,b.pc,b.r1,b.r2,b.lo,b.st,b.ca,b.cn,b.cc,b.ha,b.hl,b.hc,b.ma,b.ml,b.mc⟩:PM).is m w bm
theorem Pk.At.below {cs:List Rd.Cls}{ms:List Rd.Mth}{lcs:List (Rd.Cls × Value)}{lms:List (Rd.Mth × MthV)}{b:PBd}{m:Rd.Mth}{bm:Nat}{w w':World} (h:Pk.At cs ms lcs lms b m bm w) (hb:Below w.heap.size w w'):Pk.At cs ms lcs lms b m bm w' :=
 ⟨h.k,h.ec,h.em,h.mem,h.T,h.L,h.ru.below hb,h.is.below hb⟩

theorem pmapAt_good {cs:List Rd.Cls}{ms:List Rd.Mth}{lcs:List (Rd.Cls × Value)}{lms:List (Rd.Mth × MthV)}{b:PBd}{m:Rd.Mth}{bm:Nat}{w:World} (h:Pk.At cs ms lcs lms b m bm w):MpSays b (Ck.mMap m) w:=by
 intro q w' hb
 have h':=h.below hb
 have g:=h.k.mt m h.mem
 obtain ⟨lm,elm,hmp⟩:=h'.is.mp
 have hlm:lm.length=m.maps.length:=by rw [← elm]; simp
 have h64:=g.bd.mp
 have hfr:∀ q∈lm,q.1.locals.length≤5000∧q.1.stack.length≤5000:=fun q hq=>by
  have:q.1∈m.maps:=by rw [← elm]; exact List.mem_map.2 ⟨q,hq,rfl⟩
  have:=g.bd.fr _ this
  omega
 have:=pmapAt_any b lm bm q w' (by have:=h'.is.ml; simp only at this; omega) (by omega) hfr hmp
 rw [elm] at this
 exact this
theorem pstart_good {cs:List Rd.Cls}{ms:List Rd.Mth}{lcs:List (Rd.Cls × Value)}{lms:List (Rd.Mth × MthV)}{b:PBd}{m:Rd.Mth}{bm:Nat}{w:World} (h:Pk.At cs ms lcs lms b m bm w) :
  Calls Tryz.prog 74 #[.agg #[.int .i64 b.cl,.int .i64 b.nm,.slice b.pa b.pl b.pc,.int .i64 b.r1,.int .i64 b.r2,.int .i64 b.lo,.int .i64 b.st,.slice b.ca b.cn b.cc,.slice b.ha b.hl b.hc,.slice b.ma b.ml b.mc]] w fun e w''=>∃ u:FrV,e=.returned u.val∧u.is (Ck.mStart m) w''∧Below w.heap.size w w'':=by
 have g:=h.k.mt m h.mem
 have hlo:=g.rd.lo
 have e1:=h.is.lo
 have e2:=h.is.cl
 simp only at e1 e2
 have:=pstart_any ⟨b.cl,b.nm,b.pa,b.pl,b.pc,b.r1,b.r2,b.lo,b.st,b.ca,b.cn,b.cc,b.ha,b.hl,b.hc,b.ma,b.ml,b.mc⟩ m.params m.locals.toNat w (by simp only; omega) (by omega) (TyR.of_tys h.is.ps) (by have:=g.bd.ps; omega)
 simp only [PM.val,e2] at this
 unfold Ck.mStart
 rw [e2]
 exact this
theorem pbehind_good {cs:List Rd.Cls}{ms:List Rd.Mth}{lcs:List (Rd.Cls × Value)}{lms:List (Rd.Mth × MthV)}{b:PBd}{m:Rd.Mth}{bm:Nat}{w:World} (h:Pk.At cs ms lcs lms b m bm w) (p:Nat) (v:FrV) (x:Ck.Fr) (hp:p∈Cd.places m.code) (hv:v.is x w) (hx:Ck.P (Tr.tree cs) m x) :
  Calls Tryz.prog 121 #[b.val,.agg #[.int .i64 (p:Int),.int .i64 (Cd.insAt m.code p).op,.int .i64 (Cd.insAt m.code p).n],v.val] w fun e w''=>∃ u:FrV,e=.returned (.tuple #[u.val,.bool (Pk.mBehind cs ms m (Cd.insAt m.code p) x).isSome])∧(∀ y,Pk.mBehind cs ms m (Cd.insAt m.code p) x=some y→u.is y w'')∧Below w.heap.size w w'':=by
 have g:=h.k.mt m h.mem
 obtain ⟨h25,hw⟩:=unread_all g.unread p hp
 have hn:=num_at g hp
 have hlo:=g.rd.lo
 have hst:=g.rd.st
 have hpos:0≤(Cd.insAt m.code p).n:=by
  unfold Cd.insAt
  simp only
  split
  ·exact getD_pos g.bd.code0 _
  ·omega
 have hN2:(Cd.insAt m.code p).op=20∨(Cd.insAt m.code p).op=21→(Cd.insAt m.code p).n.toNat < lms.length:=by
  intro ho
  have ho':m.code.getD p 0=20∨m.code.getD p 0=21:=ho
  have h2:Cd.wd (m.code.getD p 0)=2:=by unfold Cd.wd; rw [if_pos (by omega)]
  have:=hn.mth ho'
  rw [(ins_n hw h2).1]
  have:ms.length=lms.length:=by rw [← h.em]; simp
  omega
 have hbig:(Cd.insAt m.code p).n.toNat≤100000:=by
  have:(Cd.insAt m.code p).n≤255:=by
   unfold Cd.insAt
   simp only
   split
   ·exact getD_le g.rd.c255 _
   ·omega
  omega
 have hps:∀ q∈lms,q.1.params.length≤1000:=fun q hq=>by
  have:q.1∈ms:=by rw [← h.em]; exact List.mem_map.2 ⟨q,hq,rfl⟩
  have:=(h.k.mt _ this).bd.ps
  omega
 have:=pbehind_any b 0 lms (Pk.fl lcs) (p:Int) (Cd.insAt m.code p).op (Cd.insAt m.code p).n.toNat v x w h.ru hv hbig (by rw [hx.lo]; omega) (by have:=hx.hi; omega) hps hN2
 have e1:=h.is.st
 have e2:=h.is.r1
 have e3:=h.is.r2
 simp only at e1 e2 e3
 rw [show (((Cd.insAt m.code p).n.toNat:Nat):Int)=(Cd.insAt m.code p).n by omega,fl_snd,h.em,h.ec,h.T,h.L,e1,show (b.r1,b.r2)=m.result by rw [e2,e3]] at this
 exact this
theorem plook_good {cs:List Rd.Cls}{ms:List Rd.Mth}{lcs:List (Rd.Cls × Value)}{lms:List (Rd.Mth × MthV)}{b:PBd}{m:Rd.Mth}{bm:Nat}{w:World} (h:Pk.At cs ms lcs lms b m bm w) (p:Nat) (v:FrV) (x:Ck.Fr) (hp:p∈Cd.places m.code) (hv:v.is x w) (hx:Ck.P (Tr.tree cs) m x) :
  Calls Tryz.prog 77 #[b.pval,.agg #[.int .i64 (p:Int),.int .i64 (Cd.insAt m.code p).op,.int .i64 (Cd.insAt m.code p).n],v.val] w fun e w''=>∃ u:FrV,e=.returned (.tuple #[u.val,.int .i64 (Pk.mLook cs ms m (Cd.insAt m.code p) x)]) ∧
   (Pk.mLook cs ms m (Cd.insAt m.code p) x=0→∃ y,Pk.mBehind cs ms m (Cd.insAt m.code p) x=some y∧u.is y w''∧Ck.P (Tr.tree cs) m y)∧Below w.heap.size w w'':=by
 have g:=h.k.mt m h.mem
 have hpl:p < m.code.length:=starts_lt hp
 have h120:=g.bd.code
 have hh4:=g.bd.hs
 have ecn:=h.is.cn
 have ehl:=h.is.hl
 simp only at ecn ehl
 have hH:=fun w' (hb:Below w.heap.size w w')=>plookH_any b (Ck.mMap m) m.handlers bm (p:Int) v x w' h.ru.tl (h.ru.below hb).tr (pmapAt_good (h.below hb)) ehl (by omega) (h.is.below hb).hs (hv.below hb)
 have:=plook_any b (Ck.mMap m) p (Cd.insAt m.code p).op (Cd.insAt m.code p).n (Pk.handlers b.T (Ck.mMap m) (p:Int) x.locals m.handlers) (Pk.mBehind cs ms m (Cd.insAt m.code p) x) v w h.ru.tl h.ru.tr (pmapAt_good h) (by omega) hH (fun w' hb=>pbehind_good (h.below hb) p v x hp (hv.below hb) hx)
 rw [h.T,ecn] at this
 refine this.mono ?_
 rintro e w' ⟨u,rfl,h1,h2⟩
 refine ⟨u,rfl,fun h0=>?_,h2⟩
 have hl:=look_same h.k h.mem hp hx
 obtain ⟨y,hy⟩:=look_some (show Ck.mLook cs ms m p x=0 by rw [← hl]; exact h0)
 have hbr:Pk.mBehind cs ms m (Cd.insAt m.code p) x=some y:=by rw [behind_rule h.k h.mem hp hx]; exact hy
 exact ⟨y,hbr,h1 h0 y hbr,rule_P h.k h.mem hp hx hy⟩
theorem pfind_good {cs:List Rd.Cls}{ms:List Rd.Mth}{lcs:List (Rd.Cls × Value)}{lms:List (Rd.Mth × MthV)}{b:PBd}{m:Rd.Mth}{bm:Nat}{w:World} (h:Pk.At cs ms lcs lms b m bm w) :
  Calls Tryz.prog 43 #[b.pval] w fun e w'=>e=.returned (.agg #[.int .i64 (Pk.mFind cs ms m).1,.int .i64 0,.int .i64 (Pk.mFind cs ms m).2])∧Below w.heap.size w w':=by
 have g:=h.k.mt m h.mem
 have:=pfind_any b (Ck.mMap m) (Pk.mLook cs ms m) (Pk.mBehind cs ms m) (Ck.mStart m) (Ck.P (Tr.tree cs) m) 0 w h.ru.tl h.ru.tr (pmapAt_good h) h.ru.ll h.ru.ins (fun w' hb=>pstart_good (h.below hb))
  (fun i hi v x w' hb hv hx=>by
   rw [h.L,readL_eq g.unread] at hi
   obtain ⟨p,hp,rfl⟩:=List.mem_map.1 hi
   exact plook_good (h.below hb) p v x hp hv hx) (start_P g) (fun q z hz=>map_P g hz)
 rw [h.T,h.L] at this
 exact this

/-- what Find gives of a file without an error of form -/
theorem pFind_good {cs:List Rd.Cls}{ms:List Rd.Mth} (k:Fm.Ok cs ms) {a1 a2:Option Addr}{n1 c1 n2 c2 bm:Nat}{lcs:List (Rd.Cls × Value)}{lms:List (Rd.Mth × MthV)}{w:World} (ec:lcs.map Prod.fst=cs) (hc:ClssIn w bm (.slice a1 n1 c1) lcs) (em:lms.map Prod.fst=ms) (hm:MthsIn w bm (.slice a2 n2 c2) lms) :
  Calls Tryz.prog 19 #[.agg #[.slice a1 n1 c1,.slice a2 n2 c2]] w fun e w'=>e=.returned (.agg #[.int .i64 (Pk.firstOf (Pk.mFind cs ms) 0 ms).1,.int .i64 (Pk.firstOf (Pk.mFind cs ms) 0 ms).2.1,.int .i64 (Pk.firstOf (Pk.mFind cs ms) 0 ms).2.2])∧Below w.heap.size w w':=by
 obtain ⟨xa,xc,hsh⟩:=own_shape hm.1
 simp only [Value.slice.injEq] at hsh
 obtain ⟨rfl,rfl,rfl⟩:=hsh
 have hl1:lcs.length=cs.length:=by rw [← ec]; simp
 have hl2:lms.length=ms.length:=by rw [← em]; simp
 have hl6:=k.l6
 have hm6:=k.m6
 have hTl:=tree_len cs
 have hmem:∀ p∈lms,p.1∈ms:=fun p hp=>by rw [← em]; exact List.mem_map.2 ⟨p,hp,rfl⟩
 have:=pFind_any a1 a2 n1 c1 c2 bm lcs lms (Pk.mFind cs ms) w (by omega) hc (by omega) hm (fun p hp=>⟨by have:=(k.mt _ (hmem p hp)).bd.code; omega,(k.mt _ (hmem p hp)).bd.code0⟩)
  (fun p hp b bb w' hb e1 e2 e3 e4 e5 e6 hT hL htr hrow his hin=>by
   have g:=k.mt _ (hmem p hp)
   rw [ec] at hT
   obtain ⟨ya,yc,hsh⟩:=own_shape hrow
   simp only [Value.slice.injEq] at hsh
   have hyl:b.yn=(Pk.fl lcs).length:=by rw [fl_len]; exact hsh.2.1
   have hll:b.L.length≤120:=by
    rw [hL,readL_eq g.unread]
    have:=insts_len p.1.code
    have:=g.bd.code
    omega
   refine pfind_good ⟨k,ec,em,hmem p hp,hT,hL,⟨e5,by omega,?_,hyl,by rw [fl_len]; omega,?_,⟨?_,?_⟩,by rw [hT]; omega,htr,by omega,own_mono hin (Nat.zero_le _)⟩,his⟩
   ·rw [e4,e5,e6]
    exact (hm.kp (Kp.of_below (e:=none) hb) (by decide) (by decide) (by decide) (by decide) (by decide)).mono (Nat.zero_le _)
   ·intro q hq
    unfold Pk.fl at hq
    rcases List.mem_append.1 hq with hq | hq
    ·rw [(List.mem_replicate.1 hq).2]; simp
    ·obtain ⟨c,hc',rfl⟩:=List.mem_map.1 hq
     exact k.fn c.1 (by rw [← ec]; exact List.mem_map.2 ⟨c,hc',rfl⟩)
   ·rw [fl_fst,fl_len]
    exact own_mono hrow (Nat.zero_le _)
   ·intro q hq
    unfold Pk.fl at hq
    rcases List.mem_append.1 hq with hq | hq
    ·rw [(List.mem_replicate.1 hq).2]; exact TyR.nil _
    ·obtain ⟨c,hc',rfl⟩:=List.mem_map.1 hq
     exact TyR.of_tys ((hc.kp (Kp.of_below (e:=none) hb) (by decide) (by decide)).2 c hc'))
 rw [em] at this
 exact this
theorem firstOf_zero (f:Rd.Mth→Int × Int):∀ (l:List Rd.Mth) (k:Nat),(Ck.firstOf f k l).1=0→Ck.firstOf f k l=(0,0,0)
 | [],_,_=>rfl
 | m :: r,k,h=>by
  rw [Ck.firstOf] at h ⊢
  by_cases h1:(f m).1 ≠ 0
  ·rw [if_pos h1] at h; exact absurd h h1
  ·rw [if_neg h1] at h ⊢; exact firstOf_zero f r _ h
/-- the program's verdict is the document's -/
theorem check_same (s:List UInt8):Pk.check (Pf.read s) (Pk.firstOf (Pk.mFind (Rd.read s).1.classes (Rd.read s).1.methods) 0 (Rd.read s).1.methods)=Ck.check (Rf.formed s) (Ck.firstOf (Ck.mChecked (Rd.read s).1.classes (Rd.read s).1.methods) 0 (Rd.read s).1.methods):=by
 rw [read_formed]
 unfold Pk.check Ck.check
 by_cases h0:(Rf.formed s).1 ≠ 0
 ·rw [if_pos h0,if_pos h0]
 ·rw [if_neg h0,if_neg h0]
  obtain ⟨k,_,_⟩:=formed_good s (by simpa using h0)
  rw [firstOf_eq _ (Ck.mChecked (Rd.read s).1.classes (Rd.read s).1.methods) _ _ (fun m hm=>find_same k hm)]
  split
  ·rfl
  ·rename_i h1
   exact (firstOf_zero _ _ _ (by simpa using h1)).symm
end Go.Proofs.YteffpdofcgbokaaGreat

/-
  Checks: every step is as the document says.
-/
namespace Go.Proofs.YteffpdofcgbokaaGreat
open Go.RowKit

theorem Check_all (s:ByteArray) (w:World) (hs:s.size≤maxLen) :
  Calls Tryz.prog 7 #[.string s] w fun e w'=>e=.returned (.tuple #[.int .i64 (Ck.all s.data.toList).1,.int .i64 (Ck.all s.data.toList).2.1,.int .i64 (Ck.all s.data.toList).2.2])∧Below w.heap.size w w':=by
 have h:=Check_any s (Pk.firstOf (Pk.mFind (Rd.read s.data.toList).1.classes (Rd.read s.data.toList).1.methods) 0 (Rd.read s.data.toList).1.methods) w hs
  (fun h0 a1 n1 c1 a2 n2 c2 bm lcs lms w' hb hl1 hc hl2 hm=>by
   rw [read_formed] at h0
   obtain ⟨k,_,_⟩:=formed_good _ h0
   exact pFind_good k hl1 hc hl2 hm)
 rw [check_same] at h
 exact h

set_option maxRecDepth 100000 in
set_option maxHeartbeats 4000000 in
theorem plays_check (o:OpD) (p:Value) (w:World) (hs:o.file.size≤maxLen) (h1:o.kind=1) :
  Calls Tryz.prog 16 #[p,o.val] w fun e w'=>e=.returned (.bool true)∧Below w.heap.size w w':=by
 obtain ⟨kind,s,k,n,k',n',entry,heap,depth,fuel,ia,il,ic⟩:=o
 simp only [OpD.val] at hs h1 ⊢
 subst h1
 have hP:=fun w=>Check_all s w hs
 have hR:=fun w=>rCheck_all s w hs
 generalize Ck.all s.data.toList=D at *
 obtain ⟨D1,D2,D3⟩:=D
 simp only at hP hR
 have HP:=hide hP
 have HR:=hide hR
 clear hP hR
 have C0:=alloc_blk w (.cells #[.int .i64 1,.string s,.int .i64 k,.int .i64 n,.int .i64 k',.int .i64 n',.int .i64 entry,.int .i64 heap,.int .i64 depth,.int .i64 fuel,.slice ia il ic] 60)
 have hB0:Below w.heap.size w (w.alloc (.cells #[.int .i64 1,.string s,.int .i64 k,.int .i64 n,.int .i64 k',.int .i64 n',.int .i64 entry,.int .i64 heap,.int .i64 depth,.int .i64 fuel,.slice ia il ic] 60)):=(Below.refl _ _).alloc (Nat.le_refl _) _
 go_enter Tryz.func16,Tryz.ntmps16
 go_wp2_with fail
 refine (unhide HP _).mono ?_
 rintro e w1 ⟨rfl,hb1⟩
 have hB1:=hB0.trans (hb1.mono (by simp))
 have C1:=stay hb1 C0
 have x1:=blk_cell C1 1
 have l1:=lt_of_block C1
 simp at x1
 clear C0 hB0
 go_wp2_with fail
 refine (unhide HR _).mono ?_
 rintro e w2 ⟨rfl,hb2⟩
 go_wp2
 go_ret
 exact ⟨by simp,hB1.trans (hb2.mono hB1.size)⟩

set_option maxRecDepth 100000 in
set_option maxHeartbeats 1000000 in
theorem checks_all (a:Option Addr) (len cap:Nat) (V:Nat→OpD) (w:World) (hlen:len≤9223372036854775807) (hV:OpsIn w a len V) (hok:∀ i,i < len→OpOk (V i)) :
  Calls Tryz.prog 6 #[.slice a len cap] w fun e w'=>e=.returned (.bool true)∧Below w.heap.size w w':=by
 have hu:=upTo_none a len cap V 1 1 w hlen hV (fun i hi h1 h2 p w1=>plays_check (V i) p w1 (hok i hi) (by omega))
 have HU:=hide hu
 clear hu hV hok
 go_enter Tryz.func6,Tryz.ntmps6
 go_wp2_with fail
 refine (unhide HU).mono ?_
 rintro e w1 ⟨rfl,hb1⟩
 go_wp2
 go_ret
 exact ⟨rfl,hb1⟩
end Go.Proofs.YteffpdofcgbokaaGreat
