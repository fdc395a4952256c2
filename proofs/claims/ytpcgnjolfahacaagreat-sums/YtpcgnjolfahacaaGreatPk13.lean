/- a part of the proofs -/
import Derived.Test.YtpcgnjolfahacaaGreatPk12
set_option maxRecDepth 100000
set_option maxHeartbeats 40000000
set_option linter.unusedVariables false
set_option linter.unusedSimpArgs false
namespace Go.Proofs.YtpcgnjolfahacaaGreat
open Go.RowKit
def Ajx (c:List Int) (q:Int):Prop:=Cd.begB c q=true∧c.getD q.toNat 0=15
def Ahg (T:List Int) (m:Rd.Mth) (x:Afb):Prop:=Ahf T m.locals.toNat m.stack (Ajx m.code) x
def Ahi (cs:List Rd.Cls):List Rf.Fld:=Rf.fieldsTo (Tr.tree cs) (Rf.given++cs) cs.length
def Afv (m:Rd.Mth) (q:Int):Option Afb:=Ag8 q m.maps
def Agc (m:Rd.Mth):Afb:=Aiy m.cl m.params m.locals.toNat
def Agj (cs:List Rd.Cls) (ms:List Rd.Mth) (m:Rd.Mth) (p:Nat) (x:Afb):Option Afb :=
 Ags m.stack (Aiz (Tr.tree cs) (Ahi cs) ms (fun c=>Rf.all (Tr.tree cs) (Rf.given++cs) c.toNat) (fun q=>Cd.atI m.code (q+1)) m.result (p:Int) (m.code.getD p 0) (Cd.atI m.code ((p:Int)+1)) x)
def Ajc (cs:List Rd.Cls) (ms:List Rd.Mth) (m:Rd.Mth) (p:Nat) (x:Afb):Int :=
 Aif (Tr.tree cs) (Afv m) (Ahk (Tr.tree cs) (Afv m) (p:Int) x.locals m.handlers) (Agj cs ms m p x) (m.code.getD p 0) (Cd.atI m.code ((p:Int)+1)) ((p+Cd.wd (m.code.getD p 0):Nat):Int) (m.code.length:Int)
def Agt (cs:List Rd.Cls) (ms:List Rd.Mth) (m:Rd.Mth) (q:Nat):Option Afb :=
 Aiv (fun p=>Afv m (p:Int)) (Agj cs ms m) (fun p=>Af5 (m.code.getD p 0)) q (Cd.places m.code) (some (Agc m))
def Agw (cs:List Rd.Cls) (ms:List Rd.Mth) (m:Rd.Mth):Int × Int :=
 Ajl (Tr.tree cs) (Afv m 0) (Agc m) (Agt cs ms m) (Ajc cs ms m) (Cd.places m.code)
def Ai4 (cs:List Rd.Cls):List (List (Int × Int)):=(Rf.given++cs).map Rd.Cls.fields
def Afk (cs:List Rd.Cls) (ms:List Rd.Mth) (m:Rd.Mth) (i:Cd.Ins) (x:Afb):Option Afb :=
 Aih (Tr.tree cs) m.stack (Ag2 (Ai4 cs) ms m.result i.op i.n) (Agp (Ai4 cs) ms i.op i.n) (Afm (Tr.tree cs) (Ai4 cs) i.n) (Ahr (Cd.readL m.code) i.n) i.place i.op i.n x
def Aiw (cs:List Rd.Cls) (ms:List Rd.Mth) (m:Rd.Mth) (i:Cd.Ins) (x:Afb):Int :=
 Ajd (Tr.tree cs) (Afv m) (Ago (Tr.tree cs) (Afv m) i.place x.locals m.handlers) (Afk cs ms m i x) i.op i.n ((i.place.toNat+Cd.wd i.op:Nat):Int) (m.code.length:Int)
def Ahx (cs:List Rd.Cls) (ms:List Rd.Mth) (m:Rd.Mth):Int × Int :=
 Aja (Tr.tree cs) (Afv m) (Aiw cs ms m) (Afk cs ms m) (Cd.readL m.code) (Agc m)
theorem Fb {T:List Int}{m:Rd.Mth}{x:Afb} (h:Ahg T m x):Afy T x:=⟨fun t ht=>(h.tl t ht).1,fun t ht=>(h.ts t ht).1⟩
theorem Zv {l:List Rd.Mp}{q:Int}{z:Afb} (h:Ag8 q l=some z):∃ y∈l,z=⟨y.locals,y.stack⟩:=by
 induction l with
 | nil=>simp[Ag8]at h
 | cons y r ih =>
  rw[Ag8]at h
  split at h
  ·exact⟨y,by simp,(Option.some.inj h).symm⟩
  ·obtain⟨y',hy,e⟩:=ih h;exact⟨y',by simp[hy],e⟩
theorem Zg {T c:List Int} (hc:c.length≤120) {t:Int × Int} (h:Cd.framed T c t.1 t.2=true):Afi T (Ajx c) t:=by
 unfold Cd.framed at h;by_cases h0:t.1=0∨t.1=1∨t.1=2
 ·rw[if_pos h0]at h;have:t.2=0:=by simpa using h
  refine⟨?_,fun g=>by omega⟩;rcases h0 with h0 | h0 | h0
  ·exact .inl ⟨h0,this⟩
  ·exact .inr (.inl ⟨h0,this⟩)
  ·exact .inr (.inr (.inl ⟨h0,this⟩))
 rw[if_neg h0]at h;by_cases h3:t.1=3
 ·rw[if_pos h3]at h;exact⟨by rw[h3];exact Do (Fe.1 h),fun g=>by omega⟩
 rw[if_neg h3]at h;by_cases h4:t.1=4
 ·rw[if_pos h4]at h;simp only[Bool.and_eq_true,beq_iff_eq]at h;have:=Gn h.1;exact⟨.inr (.inr (.inr (.inr ⟨h4,by omega,by omega⟩))),fun _=>h⟩
 ·rw[if_neg h4]at h;simp at h
theorem Rz {T c:List Int} (hc:c.length≤120) {l:List (Int × Int)} (h:Cd.frAll T c l=true):∀ t∈l,Afi T (Ajx c) t:=fun t ht=>Zg hc (List.all_eq_true.1 h t ht)
theorem Gi {T:List Int}{nf:Int}{ms:List Rd.Mth}{m:Rd.Mth} (g:Ai5 T nf ms m) {q:Int}{z:Afb} (h:Afv m q=some z):Ahg T m z:=by
 obtain⟨y,hy,rfl⟩:=Zv h;obtain⟨a,b,_⟩:=g.map y hy;obtain⟨c,d⟩:=g.rd.ml y hy;exact⟨c,d,Rz g.bd.code a,Rz g.bd.code b⟩
theorem Gt {T:List Int}{nf:Int}{ms:List Rd.Mth}{m:Rd.Mth} (g:Ai5 T nf ms m):Ahg T m (Agc m):=by
 have h1:=g.own;have h2:=g.rd.lo;have h3:=g.rd.st;refine⟨?_,by simpa[Agc,Aiy] using h3.1,?_,by simp[Agc,Aiy]⟩
 ·simp only[Agc,Aiy,List.length_append,List.length_replicate];omega
 ·intro t ht;simp only[Agc,Aiy]at ht;rcases List.mem_append.1 ht with ht | ht
  ·unfold Ajq at ht;rcases List.mem_append.1 ht with ht | ht
   ·split at ht
    ·simp at ht
    ·rename_i h255;obtain rfl:=List.mem_singleton.1 ht;exact⟨Do (Fe.1 (g.cl.resolve_left h255)),fun h=>by simp at h⟩
   ·exact Mj (Ey g.ps t ht)
  ·rw[(List.mem_replicate.1 ht).2];exact Mh _ _
structure Akf (T:List Int) (nf:Int) (ms:List Rd.Mth) (m:Rd.Mth) (op n:Int):Prop where
 loc:op=2∨op=3→0≤n∧n<m.locals
 cls:op=15∨op=16∨op=19→0≤n∧n<(T.length:Int)
 fld:op=17∨op=18→0≤n∧n<nf
 mth:op=20∨op=21→0≤n∧n<(ms.length:Int)
 own:op=21→(ms.getD n.toNat ⟨0,0,[],(0,0),0,0,[],[],[]⟩).cl≠255
theorem My {T:List Int}{nf:Int}{ms:List Rd.Mth}{m:Rd.Mth} (g:Ai5 T nf ms m) {p:Nat} (hp:p∈Cd.places m.code):Akf T nf ms m (m.code.getD p 0) (Cd.atI m.code ((p:Int)+1)):=by
 have ha:=g.arg p hp;obtain⟨h25,hw⟩:=D6 g.unread p hp;unfold Cd.argAt at ha;rw[N7]at ha;have hpos:Cd.wd (m.code.getD p 0)=2→0≤Cd.atI m.code ((p:Int)+1):=fun h2=>by
  rw[(Ii hw h2).2];exact Iy g.bd.code0 _
 generalize Cd.atI m.code ((p:Int)+1)=n at *;generalize m.code.getD p 0=op at *;have hwd:op=2∨op=3∨(11≤op∧op≤21)→0≤n:=fun h=>hpos (by unfold Cd.wd;rw[if_pos (by omega)]);unfold Cd.argB at ha;refine⟨fun h=>?_,fun h=>?_,fun h=>?_,fun h=>?_,fun h=>?_⟩
 ·rw[if_pos h]at ha;exact⟨hwd (by omega),by simpa using ha⟩
 ·rw[if_neg (by omega),if_neg (by omega),if_pos h]at ha;exact Fe.1 ha
 ·rw[if_neg (by omega),if_neg (by omega),if_neg (by omega),if_pos h]at ha;exact⟨hwd (by omega),by simpa using ha⟩
 ·refine⟨hwd (by omega),?_⟩;rw[if_neg (by omega),if_neg (by omega),if_neg (by omega),if_neg (by omega)]at ha;rcases h with h | h
  ·rw[if_pos h]at ha;simp at ha;exact_mod_cast ha.1
  ·rw[if_neg (by omega),if_pos h]at ha;simp at ha;exact_mod_cast ha.1
 ·have h0:=hwd (by omega);rw[if_neg (by omega),if_neg (by omega),if_neg (by omega),if_neg (by omega),if_neg (by omega),if_pos h]at ha;simp only[Bool.and_eq_true,decide_eq_true_eq,bne_iff_ne,ne_eq,List.length_map]at ha;have e:(List.map Rd.Mth.cl ms).getD n.toNat 0=(ms.getD n.toNat ⟨0,0,[],(0,0),0,0,[],[],[]⟩).cl:=by
   simp only[List.getD_eq_getElem?_getD,List.getElem?_map];have:n.toNat<ms.length:=by omega
   rw[List.getElem?_eq_getElem this];rfl
  rw[e]at ha;exact ha.2
theorem Qy (cs:List Rd.Cls):((Ahi cs).length:Int)=(Cd.fieldSum cs:Int):=by
 have:=Cd.fields_eq (Tr.tree cs) cs cs.length (Nat.le_refl _);rw[List.take_length]at this;unfold Ahi;rw[this]
theorem Rn {cs:List Rd.Cls}{ms:List Rd.Mth} (k:Ahb cs ms) {n:Int} (h:0≤n∧n<(Cd.fieldSum cs:Int)):(0≤((Ahi cs).getD n.toNat ⟨0,0,(0,0)⟩).owner∧((Ahi cs).getD n.toNat ⟨0,0,(0,0)⟩).owner<((Tr.tree cs).length:Int)) ∧
  Tr.plainB (Tr.tree cs) ((Ahi cs).getD n.toNat ⟨0,0,(0,0)⟩).t.1 ((Ahi cs).getD n.toNat ⟨0,0,(0,0)⟩).t.2=true:=by
 have hl:=Qy cs;have:=Nb k.fl cs.length _ (show (Ahi cs).getD n.toNat ⟨0,0,(0,0)⟩∈Ahi cs from Cm (by omega));have hT:=Br cs;exact⟨by omega,this.2⟩
theorem Oa {cs:List Rd.Cls}{ms:List Rd.Mth} (k:Ahb cs ms) {m:Rd.Mth}{op n:Int} (hm:m∈ms) (h:Akf (Tr.tree cs) (Cd.fieldSum cs:Int) ms m op n):∀ t∈Ahy (Ahi cs) ms m.result op n,Tr.Arg (Tr.tree cs) t.1 t.2:=by
 have hT:=Br cs;have g:=k.mt m hm;unfold Ahy;intro t ht
 split at ht
 ·simp at ht;rw[ht];exact .inr (.inl ⟨rfl,rfl⟩)
 split at ht
 ·simp at ht;rw[ht];exact .inr (.inl ⟨rfl,rfl⟩)
 split at ht
 ·simp at ht;rw[ht];exact Do ⟨by simp,by simp;omega⟩
 split at ht
 ·rename_i h17;obtain rfl:=List.mem_singleton.1 ht;exact Do (Rn k (h.fld (.inl h17))).1
 split at ht
 ·rename_i h18;have:=Rn k (h.fld (.inr h18));simp only[List.mem_cons,List.not_mem_nil,or_false]at ht;rcases ht with rfl | rfl
  ·exact Do this.1
  ·exact(Dd this.2).1
 split at ht
 ·rename_i h20;have:=h.mth (.inl h20);exact(Dd (Ey (k.mt _ (Cm (show n.toNat<ms.length by omega))).ps t ht)).1
 split at ht
 ·rename_i h21;have h1:=h.mth (.inr h21);have g':=k.mt _ (Cm (d:=⟨0,0,[],(0,0),0,0,[],[],[]⟩) (show n.toNat<ms.length by omega));rcases List.mem_cons.1 ht with rfl | ht
  ·exact Do (Fe.1 (g'.cl.resolve_left (h.own h21)))
  ·exact(Dd (Ey g'.ps t ht)).1
 split at ht
 ·exact(Dd (Pm g.res t ht)).1
 split at ht
 ·obtain rfl:=List.mem_singleton.1 ht;exact Do ⟨by simp,by simp;omega⟩
 ·simp at ht
theorem Yr {cs:List Rd.Cls}{ms:List Rd.Mth} (k:Ahb cs ms) {m:Rd.Mth}{op n:Int}{isN:Int→Prop} (h:Akf (Tr.tree cs) (Cd.fieldSum cs:Int) ms m op n):∀ t∈Ahd (Ahi cs) ms op n,Afi (Tr.tree cs) isN t:=by
 unfold Ahd;intro t ht
 split at ht
 ·simp at ht;rw[ht];exact⟨.inr (.inl ⟨rfl,rfl⟩),fun h=>by simp at h⟩
 split at ht
 ·simp at ht;rw[ht];exact⟨.inr (.inr (.inl ⟨rfl,rfl⟩)),fun h=>by simp at h⟩
 split at ht
 ·rename_i h17;obtain rfl:=List.mem_singleton.1 ht;exact Mj (Rn k (h.fld (.inl h17))).2
 split at ht
 ·rename_i h19;obtain rfl:=List.mem_singleton.1 ht;exact⟨Do (h.cls (.inr (.inr h19))),fun h=>by simp at h⟩
 split at ht
 ·rename_i h20;have:=h.mth h20;exact Mj (Pm (k.mt _ (Cm (show n.toNat<ms.length by omega))).res t ht)
 ·simp at ht
theorem Gw {c:List Int} (h:Cd.unread c<0):Cd.readL c=Cd.insts c:=by
 unfold Cd.readL;rw[if_neg (by omega)]
theorem Me {c:List Int}{q:Int} (h:Cd.begB c q=true):q.toNat∈Cd.places c:=by
 unfold Cd.begB at h;rw[List.any_eq_true]at h;obtain⟨p,hp,hn⟩:=h;have:(p:Int)=q:=by simpa using hn
 rw[← this,Int.toNat_natCast];exact hp
theorem Yx {c:List Int} (hu:Cd.unread c<0) {q:Int} (h:Ajx c q) (n:Int):Ahr (Cd.readL c) n q=true↔Cd.atI c (q+1)=n:=by
 rw[Gw hu];have hb:=Gn h.1;have h1:(Cd.findAt q (Cd.insts c)).isSome=true:=by rw[Cd.find_beg];exact h.1
 have h2:=(Cd.find_at c q (Cd.places c) h1).1;have h3:=D6 hu _ (Me h.1);rw[h.2]at h3;have hw:Cd.wd (c.getD q.toNat 0)=2:=by rw[h.2];rfl
 have h4:=Ii (c:=c) (p:=q.toNat) (by rw[h.2];exact h3.2) hw;unfold Ahr;rw[h1];unfold Cd.insts;rw[h2,h4.1];have e:(Cd.insAt c q.toNat).op=15:=h.2;have e2:((q.toNat:Nat):Int)=q:=by omega
 rw[e,e2]
 simp
theorem Gd {cs:List Rd.Cls}{ms:List Rd.Mth} (k:Ahb cs ms) {m:Rd.Mth} (hm:m∈ms) {p:Nat} (hp:p∈Cd.places m.code) {x y:Afb} (hx:Ahg (Tr.tree cs) m x) (h:Agj cs ms m p x=some y):Ahg (Tr.tree cs) m y:=by
 have g:=k.mt m hm;have hn:=My g hp;unfold Agj at h;rw[Nr]at h;refine Ab1 _ _ _ _ _ _ _ _ _ hx (Yr k hn) (fun h2=>?_) (fun h15=>?_) (fun h16=>hn.cls (by omega)) h
 ·have:=hn.loc (.inl h2);have:=g.rd.lo;omega
 ·have hb:Cd.begB m.code (p:Int)=true:=by
   unfold Cd.begB;rw[List.any_eq_true];exact⟨p,hp,by simp⟩
  have:=Gn hb;have:=g.bd.code;exact⟨.inr (.inr (.inr (.inr ⟨rfl,by simp,by simp;omega⟩))),fun _=>⟨hb,by simpa using h15⟩⟩
theorem Ft {cs:List Rd.Cls}{ms:List Rd.Mth} (k:Ahb cs ms) {m:Rd.Mth} (hm:m∈ms) {p:Nat} (hp:p∈Cd.places m.code) {x:Afb} (hx:Ahg (Tr.tree cs) m x):Afk cs ms m (Cd.insAt m.code p) x=Agj cs ms m p x:=by
 have g:=k.mt m hm;have hT:=Br cs;have hfl:=Qy cs;obtain⟨h25,hw⟩:=D6 g.unread p hp;have hn:=My g hp;have e0:(Cd.insAt m.code p).op=m.code.getD p 0:=rfl;have e1:(Cd.insAt m.code p).place=(p:Int):=rfl
 -- the number as the program has it
 have hN:Agj cs ms m p x=Ags m.stack (Aiz (Tr.tree cs) (Ahi cs) ms (fun c=>Rf.all (Tr.tree cs) (Rf.given++cs) c.toNat) (fun q=>Cd.atI m.code (q+1)) m.result (p:Int) (m.code.getD p 0) (Cd.insAt m.code p).n x):=by
  unfold Agj;have hwb:=Cd.wd_bd (m.code.getD p 0);by_cases h2:Cd.wd (m.code.getD p 0)=2
  ·rw[(Ii hw h2).1]
  ·rw[Acy (show Cd.wd (m.code.getD p 0)=1 by omega)]
 have hnn:Akf (Tr.tree cs) (Cd.fieldSum cs:Int) ms m (m.code.getD p 0) (Cd.insAt m.code p).n:=by
  have hwb:=Cd.wd_bd (m.code.getD p 0);by_cases h2:Cd.wd (m.code.getD p 0)=2
  ·rw[(Ii hw h2).1];exact hn
  ·have h':¬ (m.code.getD p 0=0∨m.code.getD p 0=2∨m.code.getD p 0=3∨(11≤m.code.getD p 0∧m.code.getD p 0≤21)):=by
    intro gg;unfold Cd.wd at h2;rw[if_pos gg]at h2;exact h2 rfl
   exact⟨fun h=>by omega,fun h=>by omega,fun h=>by omega,fun h=>by omega,fun h=>by omega⟩
 have hpos:0≤(Cd.insAt m.code p).n:=by
  unfold Cd.insAt;simp only
  split
  ·exact Iy g.bd.code0 _
  ·omega
 obtain⟨n,en⟩:∃ n:Nat,(Cd.insAt m.code p).n=(n:Int):=⟨(Cd.insAt m.code p).n.toNat,by omega⟩;rw[hN];unfold Afk;rw[e0,e1,en];rw[en]at hnn;clear hN hn e0 e1 en hpos;generalize hop:m.code.getD p 0=op at *;have hl7:7≤(Rf.given++cs).length:=by simp[Em]
 have hlc:(Rf.given++cs).length-7=cs.length:=by simp[Em]
 have hgl:(Rf.given++cs).length=7+cs.length:=by simp[Em]
 have hF:Ahi cs=Rf.fieldsTo (Tr.tree cs) (Rf.given++cs) ((Rf.given++cs).length-7):=by rw[hlc];rfl
 have t1:Ag2 (Ai4 cs) ms m.result op (n:Int)=Ahy (Ahi cs) ms m.result op (n:Int):=by
  rw[hF];refine Abi _ _ hl7 (Hm cs) _ _ _ _ (fun h=>?_);have:=hnn.fld h;rw[← hF];omega
 have t2:Agp (Ai4 cs) ms op (n:Int)=Ahd (Ahi cs) ms op (n:Int):=by
  rw[hF];refine W2 _ _ hl7 (Hm cs) _ _ _ (fun h=>?_);have:=hnn.fld (.inl h);rw[← hF];omega
 rw[Nr,t1,t2,← Xb k.ok (isNew:=Ahr (Cd.readL m.code) (n:Int)) (want:=Rf.all (Tr.tree cs) (Rf.given++cs) (n:Int).toNat)]
 ·-- only Init wants the fields
  by_cases h16:op=16
  ·have:=hnn.cls (by omega);rw[show Ai4 cs=(Rf.given++cs).map Rd.Cls.fields from rfl,Tf k.ok (Rf.given++cs) (by omega) (by omega),Int.toNat_natCast]
  ·unfold Aih Aj0;simp only[if_neg h16]
 ·exact fun t ht=>(hx.ts t ht).1
 ·exact Oa k hm hnn
 ·exact fun t ht=>(Dd (Jy k.fl _ _ t ht)).1
 ·exact Wb _ _ _ _
 ·exact hx.hi
 ·intro h;have:=hnn.loc h;have:=hx.lo;have:=g.rd.lo;omega
 ·intro _ t ht h4;exact Yx g.unread ((hx.ts t ht).2 h4) _
theorem Oe {T:List Int}{mp:Int→Option Afb}{H:Int}{R:Option Afb}{op n nxt len:Int} (h:Aif T mp H R op n nxt len=0):∃ y,R=some y:=by
 unfold Aif at h;by_cases h0:H≠0
 ·rw[if_pos h0]at h;exact absurd h h0
 ·rw[if_neg h0]at h;cases R with
  | none=>simp at h
  | some y=>exact⟨y,rfl⟩
theorem Acw {T:List Int}{nf:Int}{ms:List Rd.Mth}{m:Rd.Mth} (g:Ai5 T nf ms m):∀ h∈m.handlers,Tr.Arg T 3 h.cl:=by
 intro h hh;have:=g.hnd h hh;unfold Cd.hndBad at this;simp only[Bool.or_eq_false_iff,Bool.not_eq_false']at this;exact Do (Fe.1 this.1.2)
theorem Pg {cs:List Rd.Cls}{ms:List Rd.Mth} (k:Ahb cs ms) {m:Rd.Mth} (hm:m∈ms) {p:Nat} (hp:p∈Cd.places m.code) {x:Afb} (hx:Ahg (Tr.tree cs) m x):Aiw cs ms m (Cd.insAt m.code p) x=Ajc cs ms m p x:=by
 have g:=k.mt m hm;obtain⟨h25,hw⟩:=D6 g.unread p hp;have hmp:∀ q z,Afv m q=some z→Afy (Tr.tree cs) z:=fun q z h=>Fb (Gi g h);unfold Aiw Ajc;have e0:(Cd.insAt m.code p).op=m.code.getD p 0:=rfl;have e1:(Cd.insAt m.code p).place=(p:Int):=rfl;rw[Ft k hm hp hx,e0,e1,Int.toNat_natCast,Lb k.ok _ hmp _ _ (fun t ht=>(hx.tl t ht).1) _ (Acw g),
  Acm k.ok _ hmp _ _ (fun y hy=>Fb (Gd k hm hp hx hy))]
 have hwb:=Cd.wd_bd (m.code.getD p 0);by_cases h2:Cd.wd (m.code.getD p 0)=2
 ·rw[(Ii hw h2).1]
 ·exact Ael (by omega) _ _
theorem Ys {cs:List Rd.Cls}{ms:List Rd.Mth} (k:Ahb cs ms) {m:Rd.Mth} (hm:m∈ms):Ahx cs ms m=Agw cs ms m:=by
 have g:=k.mt m hm;unfold Ahx Agw Agt;rw[Gw g.unread];refine Sr k.ok (Afv m) (Agj cs ms m) (Ajc cs ms m) m.code (Aiw cs ms m) (Afk cs ms m) (Ahg (Tr.tree cs) m) (fun x h=>Fb h) (fun q z h=>Gi g h) (Agc m) (Gt g) ?_;intro p hp x hx;refine⟨Pg k hm hp hx,fun h0=>?_⟩;obtain⟨y,hy⟩:=Oe h0;exact⟨y,hy,by rw[Ft k hm hp hx,hy],Gd k hm hp hx hy⟩
def Agu (s:List UInt8):Int × Int × Int:=Ajb (Rf.formed s) (Agx (Agw (Rd.read s).1.classes (Rd.read s).1.methods) 0 (Rd.read s).1.methods)
def Ahl (lcs:List (Rd.Cls × Value)):List (Value × List (Int × Int)):=List.replicate 7 (.slice none 0 0,[])++lcs.map fun p=>(p.2,p.1.fields)
theorem Qz (lcs:List (Rd.Cls × Value)):(Ahl lcs).map Prod.fst=Tr.fvals lcs:=by
 unfold Ahl Tr.fvals;rw[List.map_append,List.map_replicate,List.map_map];rfl
theorem X2 (lcs:List (Rd.Cls × Value)):(Ahl lcs).map Prod.snd=Ai4 (lcs.map Prod.fst):=by
 unfold Ahl Ai4;rw[List.map_append,List.map_replicate,List.map_map,List.map_append,List.map_map];rfl
theorem Hf (lcs:List (Rd.Cls × Value)):(Ahl lcs).length=7+lcs.length:=by unfold Ahl;simp;omega
theorem Ac6 {c:List Int} (h:∀ x∈c,x≤255) (i:Nat):c.getD i 0≤255:=by
 by_cases hi:i<c.length
 ·exact h _ (Cm hi)
 ·rw[List.getD_eq_getElem?_getD,List.getElem?_eq_none (by omega)];simp
structure Ajh (cs:List Rd.Cls) (ms:List Rd.Mth) (lcs:List (Rd.Cls × Value)) (lms:List (Rd.Mth × MthV)) (b:PBd) (m:Rd.Mth) (bm:Nat) (w:World):Prop where
 k:Ahb cs ms
 ec:lcs.map Prod.fst=cs
 em:lms.map Prod.fst=ms
 mem:m∈ms
 T:b.T=Tr.tree cs
 L:b.L=Cd.readL m.code
 ru:Ru b w 0 lms (Ahl lcs)
 is:(⟨b.cl,b.nm,b.pa,b.pl,b.pc,b.r1,b.r2,b.lo,b.st,b.ca,b.cn,b.cc,b.ha,b.hl,b.hc,b.ma,b.ml,b.mc⟩:PM).is m w bm
theorem Ajh.below {cs:List Rd.Cls}{ms:List Rd.Mth}{lcs:List (Rd.Cls × Value)}{lms:List (Rd.Mth × MthV)}{b:PBd}{m:Rd.Mth}{bm:Nat}{w w':World} (h:Ajh cs ms lcs lms b m bm w) (hb:Below w.heap.size w w'):Ajh cs ms lcs lms b m bm w' :=
 ⟨h.k,h.ec,h.em,h.mem,h.T,h.L,h.ru.below hb,h.is.below hb⟩
theorem Hz {cs:List Rd.Cls}{ms:List Rd.Mth}{lcs:List (Rd.Cls × Value)}{lms:List (Rd.Mth × MthV)}{b:PBd}{m:Rd.Mth}{bm:Nat}{w:World} (h:Ajh cs ms lcs lms b m bm w):MpSays b (Afv m) w:=by
 intro q w' hb;have h':=h.below hb;have g:=h.k.mt m h.mem;obtain⟨lm,elm,hmp⟩:=h'.is.mp;have hlm:lm.length=m.maps.length:=by rw[← elm];simp
 have h64:=g.bd.mp;have hfr:∀ q∈lm,q.1.locals.length≤5000∧q.1.stack.length≤5000:=fun q hq=>by
  have:q.1∈m.maps:=by rw[← elm];exact List.mem_map.2 ⟨q,hq,rfl⟩
  have:=g.bd.fr _ this;omega
 have:=Vs b lm bm q w' (by have:=h'.is.ml;simp only at this;omega) (by omega) hfr hmp;rw[elm]at this;exact this
theorem T5 {cs:List Rd.Cls}{ms:List Rd.Mth}{lcs:List (Rd.Cls × Value)}{lms:List (Rd.Mth × MthV)}{b:PBd}{m:Rd.Mth}{bm:Nat}{w:World} (h:Ajh cs ms lcs lms b m bm w) :
  Calls Tryz.prog 110 #[.agg #[.int .i64 b.cl,.int .i64 b.nm,.slice b.pa b.pl b.pc,.int .i64 b.r1,.int .i64 b.r2,.int .i64 b.lo,.int .i64 b.st,.slice b.ca b.cn b.cc,.slice b.ha b.hl b.hc,.slice b.ma b.ml b.mc]] w fun e w''=>∃ u:FrV,e=.returned u.val∧u.is (Agc m) w''∧Below w.heap.size w w'':=by
 have g:=h.k.mt m h.mem;have hlo:=g.rd.lo;have e1:=h.is.lo;have e2:=h.is.cl;simp only at e1 e2;have:=Mo ⟨b.cl,b.nm,b.pa,b.pl,b.pc,b.r1,b.r2,b.lo,b.st,b.ca,b.cn,b.cc,b.ha,b.hl,b.hc,b.ma,b.ml,b.mc⟩ m.params m.locals.toNat w (by simp only;omega) (by omega) (TyR.of_tys h.is.ps) (by have:=g.bd.ps;omega);simp only[PM.val,e2]at this;unfold Agc;rw[e2];exact this
theorem Jo {cs:List Rd.Cls}{ms:List Rd.Mth}{lcs:List (Rd.Cls × Value)}{lms:List (Rd.Mth × MthV)}{b:PBd}{m:Rd.Mth}{bm:Nat}{w:World} (h:Ajh cs ms lcs lms b m bm w) (p:Nat) (v:FrV) (x:Afb) (hp:p∈Cd.places m.code) (hv:v.is x w) (hx:Ahg (Tr.tree cs) m x) :
  Calls Tryz.prog 221 #[b.val,.agg #[.int .i64 (p:Int),.int .i64 (Cd.insAt m.code p).op,.int .i64 (Cd.insAt m.code p).n],v.val] w fun e w''=>∃ u:FrV,e=.returned (.tuple #[u.val,.bool (Afk cs ms m (Cd.insAt m.code p) x).isSome])∧(∀ y,Afk cs ms m (Cd.insAt m.code p) x=some y→u.is y w'')∧Below w.heap.size w w'':=by
 have g:=h.k.mt m h.mem;obtain⟨h25,hw⟩:=D6 g.unread p hp;have hn:=My g hp;have hlo:=g.rd.lo;have hst:=g.rd.st;have hpos:0≤(Cd.insAt m.code p).n:=by
  unfold Cd.insAt;simp only
  split
  ·exact Iy g.bd.code0 _
  ·omega
 have hN2:(Cd.insAt m.code p).op=20∨(Cd.insAt m.code p).op=21→(Cd.insAt m.code p).n.toNat<lms.length:=by
  intro ho;have ho':m.code.getD p 0=20∨m.code.getD p 0=21:=ho;have h2:Cd.wd (m.code.getD p 0)=2:=by unfold Cd.wd;rw[if_pos (by omega)]
  have:=hn.mth ho';rw[(Ii hw h2).1];have:ms.length=lms.length:=by rw[← h.em];simp
  omega
 have hbig:(Cd.insAt m.code p).n.toNat≤100000:=by
  have:(Cd.insAt m.code p).n≤255:=by
   unfold Cd.insAt;simp only
   split
   ·exact Ac6 g.rd.c255 _
   ·omega
  omega
 have hps:∀ q∈lms,q.1.params.length≤1000:=fun q hq=>by
  have:q.1∈ms:=by rw[← h.em];exact List.mem_map.2 ⟨q,hq,rfl⟩
  have:=(h.k.mt _ this).bd.ps;omega
 have:=Tz b 0 lms (Ahl lcs) (p:Int) (Cd.insAt m.code p).op (Cd.insAt m.code p).n.toNat v x w h.ru hv hbig (by rw[hx.lo];omega) (by have:=hx.hi;omega) hps hN2;have e1:=h.is.st;have e2:=h.is.r1;have e3:=h.is.r2;simp only at e1 e2 e3;rw[show (((Cd.insAt m.code p).n.toNat:Nat):Int)=(Cd.insAt m.code p).n by omega,X2,h.em,h.ec,h.T,h.L,e1,show (b.r1,b.r2)=m.result by rw[e2,e3]]at this;exact this
theorem Wa {cs:List Rd.Cls}{ms:List Rd.Mth}{lcs:List (Rd.Cls × Value)}{lms:List (Rd.Mth × MthV)}{b:PBd}{m:Rd.Mth}{bm:Nat}{w:World} (h:Ajh cs ms lcs lms b m bm w) (p:Nat) (v:FrV) (x:Afb) (hp:p∈Cd.places m.code) (hv:v.is x w) (hx:Ahg (Tr.tree cs) m x) :
  Calls Tryz.prog 186 #[b.pval,.agg #[.int .i64 (p:Int),.int .i64 (Cd.insAt m.code p).op,.int .i64 (Cd.insAt m.code p).n],v.val] w fun e w''=>∃ u:FrV,e=.returned (.tuple #[u.val,.int .i64 (Aiw cs ms m (Cd.insAt m.code p) x)]) ∧
   (Aiw cs ms m (Cd.insAt m.code p) x=0→∃ y,Afk cs ms m (Cd.insAt m.code p) x=some y∧u.is y w''∧Ahg (Tr.tree cs) m y)∧Below w.heap.size w w'':=by
 have g:=h.k.mt m h.mem;have hpl:p<m.code.length:=Ob hp;have h120:=g.bd.code;have hh4:=g.bd.hs;have ecn:=h.is.cn;have ehl:=h.is.hl;simp only at ecn ehl;have hH:=fun w' (hb:Below w.heap.size w w')=>Vi b (Afv m) m.handlers bm (p:Int) v x w' h.ru.tl (h.ru.below hb).tr (Hz (h.below hb)) ehl (by omega) (h.is.below hb).hs (hv.below hb);have:=W7 b (Afv m) p (Cd.insAt m.code p).op (Cd.insAt m.code p).n (Ago b.T (Afv m) (p:Int) x.locals m.handlers) (Afk cs ms m (Cd.insAt m.code p) x) v w h.ru.tl h.ru.tr (Hz h) (by omega) hH (fun w' hb=>Jo (h.below hb) p v x hp (hv.below hb) hx);rw[h.T,ecn]at this;refine this.mono ?_;rintro e w' ⟨u,rfl,h1,h2⟩;refine⟨u,rfl,fun h0=>?_,h2⟩;have hl:=Pg h.k h.mem hp hx;obtain⟨y,hy⟩:=Oe (show Ajc cs ms m p x=0 by rw[← hl];exact h0);have hbr:Afk cs ms m (Cd.insAt m.code p) x=some y:=by rw[Ft h.k h.mem hp hx];exact hy
 exact⟨y,hbr,h1 h0 y hbr,Gd h.k h.mem hp hx hy⟩
theorem Wh {cs:List Rd.Cls}{ms:List Rd.Mth}{lcs:List (Rd.Cls × Value)}{lms:List (Rd.Mth × MthV)}{b:PBd}{m:Rd.Mth}{bm:Nat}{w:World} (h:Ajh cs ms lcs lms b m bm w) :
  Calls Tryz.prog 129 #[b.pval] w fun e w'=>e=.returned (.agg #[.int .i64 (Ahx cs ms m).1,.int .i64 0,.int .i64 (Ahx cs ms m).2])∧Below w.heap.size w w':=by
 have g:=h.k.mt m h.mem;have:=Xp b (Afv m) (Aiw cs ms m) (Afk cs ms m) (Agc m) (Ahg (Tr.tree cs) m) 0 w h.ru.tl h.ru.tr (Hz h) h.ru.ll h.ru.ins (fun w' hb=>T5 (h.below hb))
  (fun i hi v x w' hb hv hx=>by
   rw[h.L,Gw g.unread]at hi;obtain⟨p,hp,rfl⟩:=List.mem_map.1 hi;exact Wa (h.below hb) p v x hp hv hx) (Gt g) (fun q z hz=>Gi g hz)
 rw[h.T,h.L]at this;exact this
theorem Mr {cs:List Rd.Cls}{ms:List Rd.Mth} (k:Ahb cs ms) {a1 a2:Option Addr}{n1 c1 n2 c2 bm:Nat}{lcs:List (Rd.Cls × Value)}{lms:List (Rd.Mth × MthV)}{w:World} (ec:lcs.map Prod.fst=cs) (hc:ClssIn w bm (.slice a1 n1 c1) lcs) (em:lms.map Prod.fst=ms) (hm:MthsIn w bm (.slice a2 n2 c2) lms) :
  Calls Tryz.prog 80 #[.agg #[.slice a1 n1 c1,.slice a2 n2 c2]] w fun e w'=>e=.returned (.agg #[.int .i64 (Agb (Ahx cs ms) 0 ms).1,.int .i64 (Agb (Ahx cs ms) 0 ms).2.1,.int .i64 (Agb (Ahx cs ms) 0 ms).2.2])∧Below w.heap.size w w':=by
 obtain⟨xa,xc,hsh⟩:=Ae hm.1;simp only[Value.slice.injEq]at hsh;obtain⟨rfl,rfl,rfl⟩:=hsh;have hl1:lcs.length=cs.length:=by rw[← ec];simp
 have hl2:lms.length=ms.length:=by rw[← em];simp
 have hl6:=k.l6;have hm6:=k.m6;have hTl:=Br cs;have hmem:∀ p∈lms,p.1∈ms:=fun p hp=>by rw[← em];exact List.mem_map.2 ⟨p,hp,rfl⟩
 have:=Zx a1 a2 n1 c1 c2 bm lcs lms (Ahx cs ms) w (by omega) hc (by omega) hm (fun p hp=>⟨by have:=(k.mt _ (hmem p hp)).bd.code;omega,(k.mt _ (hmem p hp)).bd.code0⟩)
  (fun p hp b bb w' hb e1 e2 e3 e4 e5 e6 hT hL htr hrow his hin=>by
   have g:=k.mt _ (hmem p hp);rw[ec]at hT;obtain⟨ya,yc,hsh⟩:=Ae hrow;simp only[Value.slice.injEq]at hsh;have hyl:b.yn=(Ahl lcs).length:=by rw[Hf];exact hsh.2.1
   have hll:b.L.length≤120:=by
    rw[hL,Gw g.unread];have:=Jv p.1.code;have:=g.bd.code;omega
   refine Wh ⟨k,ec,em,hmem p hp,hT,hL,⟨e5,by omega,?_,hyl,by rw[Hf];omega,?_,⟨?_,?_⟩,by rw[hT];omega,htr,by omega,Av hin (Nat.zero_le _)⟩,his⟩
   ·rw[e4,e5,e6];exact(hm.kp (Kp.of_below (e:=none) hb) (by decide) (by decide) (by decide) (by decide) (by decide)).mono (Nat.zero_le _)
   ·intro q hq;unfold Ahl at hq;rcases List.mem_append.1 hq with hq | hq
    ·rw[(List.mem_replicate.1 hq).2];simp
    ·obtain⟨c,hc',rfl⟩:=List.mem_map.1 hq;exact k.fn c.1 (by rw[← ec];exact List.mem_map.2 ⟨c,hc',rfl⟩)
   ·rw[Qz,Hf];exact Av hrow (Nat.zero_le _)
   ·intro q hq;unfold Ahl at hq;rcases List.mem_append.1 hq with hq | hq
    ·rw[(List.mem_replicate.1 hq).2];exact TyR.nil _
    ·obtain⟨c,hc',rfl⟩:=List.mem_map.1 hq;exact TyR.of_tys ((hc.kp (Kp.of_below (e:=none) hb) (by decide) (by decide)).2 c hc'))
 rw[em]at this;exact this
theorem Ji (f:Rd.Mth→Int × Int):∀ (l:List Rd.Mth) (k:Nat),(Agx f k l).1=0→Agx f k l=(0,0,0)
 | [],_,_=>rfl
 | m::r,k,h=>by
  rw[Agx]at h ⊢;by_cases h1:(f m).1≠0
  ·rw[if_pos h1]at h;exact absurd h h1
  ·rw[if_neg h1]at h ⊢;exact Ji f r _ h
theorem Mx (s:List UInt8):Ahw (Aga s) (Agb (Ahx (Rd.read s).1.classes (Rd.read s).1.methods) 0 (Rd.read s).1.methods)=Ajb (Rf.formed s) (Agx (Agw (Rd.read s).1.classes (Rd.read s).1.methods) 0 (Rd.read s).1.methods):=by
 rw[Cf];unfold Ahw Ajb;by_cases h0:(Rf.formed s).1≠0
 ·rw[if_pos h0,if_pos h0]
 ·rw[if_neg h0,if_neg h0];obtain⟨k,_,_⟩:=Cu s (by simpa using h0);rw[M9 _ (Agw (Rd.read s).1.classes (Rd.read s).1.methods) _ _ (fun m hm=>Ys k hm)]
  split
  ·rfl
  ·rename_i h1;exact(Ji _ _ _ (by simpa using h1)).symm
theorem Zk (s:ByteArray) (w:World) (hs:s.size≤maxLen) :
  Calls Tryz.prog 20 #[.string s] w fun e w'=>e=.returned (.tuple #[.int .i64 (Agu s.data.toList).1,.int .i64 (Agu s.data.toList).2.1,.int .i64 (Agu s.data.toList).2.2])∧Below w.heap.size w w':=by
 have h:=Zj s (Agb (Ahx (Rd.read s.data.toList).1.classes (Rd.read s.data.toList).1.methods) 0 (Rd.read s.data.toList).1.methods) w hs
  (fun h0 a1 n1 c1 a2 n2 c2 bm lcs lms w' hb hl1 hc hl2 hm=>by
   rw[Cf]at h0;obtain⟨k,_,_⟩:=Cu _ h0;exact Mr k hl1 hc hl2 hm)
 rw[Mx]at h;exact h
structure Aik where
 fr:Afb
 st:Bool
 ri:Bool
 wa:Bool
def Ahe:Aik:=⟨⟨[],[]⟩,false,false,false⟩
structure Afd where
 sp:List Aik
 hop:Bool
def Afd.at (s:Afd) (q:Nat):Aik:=s.sp.getD q Ahe
def Afd.put (s:Afd) (q:Nat) (y:Afb):Afd:=⟨s.sp.set q ⟨y,true,true,(s.at q).wa⟩,s.hop⟩
def Afd.stop (s:Afd):Afd:=⟨s.sp,true⟩
def Afd.want (s:Afd) (q:Nat):Afd:=⟨s.sp.set q ⟨(s.at q).fr,(s.at q).st,(s.at q).ri,true⟩,s.hop⟩
def Afd.calm (s:Afd) (q:Nat):Afd:=⟨s.sp.set q ⟨(s.at q).fr,(s.at q).st,false,(s.at q).wa⟩,s.hop⟩
def Ahu (T:List Int) (x y:Afb):Afb:=⟨List.zipWith (Tr.joinT T) x.locals y.locals,List.zipWith (Tr.joinT T) x.stack y.stack⟩
def Afo (T:List Int) (hi:Int) (x:Afb) (q:Int) (s:Afd):Afd :=
 if q<0∨(s.sp.length:Int)≤q∨hi<(x.stack.length:Int) then s.stop
 else if (s.at q.toNat).st=false then s.put q.toNat x
 else if Agv T x (s.at q.toNat).fr=true then s
 else if x.locals.length=(s.at q.toNat).fr.locals.length∧x.stack.length=(s.at q.toNat).fr.stack.length then s.put q.toNat (Ahu T x (s.at q.toNat).fr)
 else s.stop
def Ajm (q:Int) (s:Afd):Afd:=if 0≤q∧q<(s.sp.length:Int) then s.want q.toNat else s
def Agz (T:List Int) (hi:Int) (x:Afb) (q:Int) (s:Afd):Afd:=Ajm q (Afo T hi x q s)
def Afn (T:List Int) (hi:Int) (p:Int) (lo:List (Int × Int)):List Rd.Hnd→Afd→Afd
 | [],s=>s
 | h::r,s=>Afn T hi p lo r (if Af2 h p=true then Agz T hi ⟨lo,[(3,h.cl)]⟩ h.target s else s)
def Ah3 (T:List Int) (hi:Int) (hs:List Rd.Hnd) (bh:Cd.Ins→Afb→Option Afb) (i:Cd.Ins) (x:Afb) (s:Afd):Afd :=
 match bh i x with
 | none=>(Afn T hi i.place x.locals hs s).stop
 | some y =>
  let s1:=Afn T hi i.place x.locals hs s
  let s2:=if Afx i.op=true then Agz T hi y i.n s1 else s1
  if Af5 i.op=true then Afo T hi y (i.place+(Cd.wd i.op:Int)) s2 else s2
def Aff (lk:Cd.Ins→Afb→Afd→Afd):List Cd.Ins→Bool→Afd→Afd × Bool
 | [],b,s=>(s,b)
 | i::r,b,s=>if (s.sp.length:Int)≤i.place∨(s.at i.place.toNat).ri=false then Aff lk r b s
  else Aff lk r true (lk i (s.at i.place.toNat).fr (s.calm i.place.toNat))
def Ahn (lk:Cd.Ins→Afb→Afd→Afd) (L:List Cd.Ins):Nat→Afd→Afd
 | 0,s=>s
 | n+1,s=>if (Aff lk L false s).2=true∧(Aff lk L false s).1.hop=false then Ahn lk L n (Aff lk L false s).1 else (Aff lk L false s).1
def Af7:Nat→List Aik→List Rd.Mp
 | _,[]=>[]
 | k,p::r=>if p.wa=true then ⟨(k:Int),p.fr.locals,p.fr.stack⟩::Af7 (k+1) r else Af7 (k+1) r
def Ajf (T:List Int) (t:Int × Int):Nat:=if t.1=0 then 0 else if t.1=3 then 1+t.2.toNat else if t.1=2 then T.length+1 else 1
def Aiu (T:List Int) (l:List (Int × Int)):Nat:=(l.map (Ajf T)).sum
def Ajt (T:List Int) (x:Afb):Nat:=Aiu T x.locals+Aiu T x.stack
theorem Acb {T:List Int} (h:Tr.Ok T) {a b:Int × Int} (ha:Tr.Arg T a.1 a.2) (hb:Tr.Arg T b.1 b.2):Ajf T (Tr.joinT T a b)≤Ajf T b∧(Tr.fitsB T a.1 a.2 b.1 b.2=false→Ajf T (Tr.joinT T a b)<Ajf T b):=by
 obtain⟨k,n⟩:=a;obtain⟨k',n'⟩:=b;simp only at ha hb;obtain⟨j1,j2,j3,j4⟩:=Tr.join_spec h ha hb;simp only;by_cases hf:Tr.fitsB T k n k' n'=true
 ·have e:Tr.joinT T (k,n) (k',n')=(k',n'):=by unfold Tr.joinT;rw[if_pos hf]
  rw[e,hf];exact⟨Nat.le_refl _,fun h=>by simp at h⟩
 ·have hne:Tr.joinT T (k,n) (k',n')≠(k',n'):=fun e=>hf (by rw[e]at j2;exact j2);generalize Tr.joinT T (k,n) (k',n')=J at *;obtain⟨a,b⟩:=J;simp only at j1 j2 j3;have:Ajf T (a,b)<Ajf T (k',n'):=by
   unfold Ajf;simp only;rcases(Tr.fits_iff ..).1 j3 with ⟨rfl,rfl⟩ | e | ⟨rfl,rfl⟩ | ⟨rfl,rfl,e⟩
   ·exact absurd rfl hne
   ·subst e;have hk':k' ≠ 0:=by
     rintro rfl;exact hf ((Tr.fits_iff ..).2 (.inr (.inl rfl)))
    rw[if_pos rfl,if_neg hk']
    split
    ·omega
    ·split<;>omega
   ·unfold Tr.Arg at j1;rw[if_neg (by decide),if_pos rfl,if_neg (by decide),if_neg (by decide),if_pos rfl];omega
   ·unfold Tr.Arg at j1 hb;have:=Tr.below_lt h (a:=n') (b:=b) (by omega) (by omega) e;rw[if_neg (by decide),if_pos rfl,if_neg (by decide),if_pos rfl];omega
  exact⟨Nat.le_of_lt this,fun _=>this⟩
theorem Md {T:List Int} (h:Tr.Ok T):∀ (a b:List (Int × Int)),(∀ t∈a,Tr.Arg T t.1 t.2)→(∀ t∈b,Tr.Arg T t.1 t.2)→a.length=b.length →
  Aiu T (List.zipWith (Tr.joinT T) a b)≤Aiu T b∧(Aft T a b=false→Aiu T (List.zipWith (Tr.joinT T) a b)<Aiu T b)
 | [],[],_,_,_=>⟨Nat.le_refl _,fun h=>by simp[Aft]at h⟩
 | [],y::b,_,_,hl=>by simp at hl
 | x::a,[],_,_,hl=>by simp at hl
 | x::a,y::b,ha,hb,hl=>by
  have h1:=Acb h (ha x (by simp)) (hb y (by simp));have h2:=Md h a b (fun t ht=>ha t (by simp[ht])) (fun t ht=>hb t (by simp[ht])) (by simpa using hl);unfold Aiu at h2 ⊢;simp only[List.zipWith_cons_cons,List.map_cons,List.sum_cons];refine⟨by omega,fun hf=>?_⟩;unfold Aft at hf;by_cases hx:Tr.fitsB T x.1 x.2 y.1 y.2=true
  ·have:Aft T a b=false:=by simpa[hx] using hf
   have:=h2.2 this;omega
  ·have:=h1.2 (by simpa using hx);omega
theorem Ac0 {T:List Int} (h:Tr.Ok T) {x y:Afb} (hx:Afy T x) (hy:Afy T y) (hl:x.locals.length=y.locals.length) (hs:x.stack.length=y.stack.length) (hn:Agv T x y=false):Ajt T (Ahu T x y)<Ajt T y:=by
 have h1:=Md h x.locals y.locals hx.1 hy.1 hl;have h2:=Md h x.stack y.stack hx.2 hy.2 hs;unfold Agv Ah9 at hn;rw[if_pos hl,if_pos hs]at hn;unfold Ajt Ahu;simp only;by_cases hf:Aft T x.locals y.locals=true
 ·have:=h2.2 (by simpa[hf] using hn);omega
 ·have:=h1.2 (by simpa using hf);omega
theorem Rx {T:List Int}:∀ (l:List (Int × Int)),(∀ t∈l,Tr.Arg T t.1 t.2)→Aiu T l≤(T.length+1)*l.length
 | [],_=>by simp[Aiu]
 | x::l,h=>by
  have h1:=Rx l (fun t ht=>h t (by simp[ht]));have hx:=h x (by simp);have:Ajf T x≤T.length+1:=by
   unfold Ajf;unfold Tr.Arg at hx
   split
   ·omega
   ·split
    ·omega
    ·split<;>omega
  unfold Aiu at h1 ⊢;simp only[List.map_cons,List.sum_cons,List.length_cons,Nat.mul_succ];omega
def Aht (T:List Int) (lo:Nat) (hi:Int) (isN:Int→Prop) (s:Afd):Prop:=∀ p∈s.sp,(p.st=true→Ahf T lo hi isN p.fr)∧(p.ri=true→p.st=true)
def Ag1 (T:List Int) (K:Nat) (p:Aik):Nat:=if p.st=true then Ajt T p.fr else K
def Aia (T:List Int) (K:Nat) (s:Afd):Nat:=(s.sp.map (Ag1 T K)).sum*(s.sp.length+1)+s.sp.countP (fun p=>p.ri)
theorem Ka {α:Type} (f:α→Nat) (d y:α):∀ (l:List α) (i:Nat),i<l.length→((l.set i y).map f).sum+f (l.getD i d)=(l.map f).sum+f y
 | [],_,h=>by simp at h
 | x::l,0,_=>by simp;omega
 | x::l,i+1,h=>by
  have:=Ka f d y l i (by simpa using h);simp at this ⊢;omega
theorem Hw {α:Type} (f:α→Bool) (d y:α):∀ (l:List α) (i:Nat),i<l.length→(l.set i y).countP f+(if f (l.getD i d)=true then 1 else 0)=l.countP f+(if f y=true then 1 else 0)
 | [],_,h=>by simp at h
 | x::l,0,_=>by
  simp only[List.set_cons_zero,List.countP_cons,List.getD_cons_zero];omega
 | x::l,i+1,h=>by
  have:=Hw f d y l i (by simpa using h);simp only[List.set_cons_succ,List.countP_cons,List.getD_cons_succ];omega
theorem Ag9 {s:Afd}{q:Nat} (h:q<s.sp.length):s.at q∈s.sp:=by
 unfold Afd.at;rw[List.getD_eq_getElem?_getD,List.getElem?_eq_getElem h];exact List.getElem_mem _
structure Ag3 (T:List Int) (lo:Nat) (hi:Int) (isN:Int→Prop) (K:Nat) (s s':Afd):Prop where
 ok:Aht T lo hi isN s'
 len:s'.sp.length=s.sp.length
 mu:Aia T K s'≤Aia T K s
theorem Ag3.refl {T:List Int}{lo:Nat}{hi:Int}{isN:Int→Prop}{K:Nat}{s:Afd} (h:Aht T lo hi isN s):Ag3 T lo hi isN K s s:=⟨h,rfl,Nat.le_refl _⟩
theorem Ag3.trans {T:List Int}{lo:Nat}{hi:Int}{isN:Int→Prop}{K:Nat}{a b c:Afd} (h:Ag3 T lo hi isN K a b) (g:Ag3 T lo hi isN K b c):Ag3 T lo hi isN K a c:=⟨g.ok,g.len.trans h.len,Nat.le_trans g.mu h.mu⟩
theorem Ag3.stop {T:List Int}{lo:Nat}{hi:Int}{isN:Int→Prop}{K:Nat}{s:Afd} (h:Aht T lo hi isN s):Ag3 T lo hi isN K s s.stop:=⟨h,rfl,Nat.le_refl _⟩
theorem Ag3.put {T:List Int}{lo:Nat}{hi:Int}{isN:Int→Prop}{K:Nat}{s:Afd} (h:Aht T lo hi isN s) {q:Nat} (hq:q<s.sp.length) {y:Afb} (hy:Ahf T lo hi isN y) (hc:Ajt T y<Ag1 T K (s.at q)):Ag3 T lo hi isN K s (s.put q y):=by
 refine⟨fun p hp=>?_,by simp[Afd.put],?_⟩
 ·rcases List.mem_or_eq_of_mem_set hp with hp|rfl
  ·exact h p hp
  ·exact⟨fun _=>hy,fun _=>rfl⟩
 ·have h1:=Ka (Ag1 T K) Ahe ⟨y,true,true,(s.at q).wa⟩ s.sp q hq;have h2:=Hw (fun p:Aik=>p.ri) Ahe ⟨y,true,true,(s.at q).wa⟩ s.sp q hq;unfold Aia Afd.put;simp only[List.length_set];unfold Afd.at at hc h1 h2 ⊢;simp only[if_true]at h2;have e:Ag1 T K ⟨y,true,true,(s.sp.getD q Ahe).wa⟩=Ajt T y:=by unfold Ag1;rw[if_pos rfl]
  rw[e]at h1;have h3:((s.sp.set q ⟨y,true,true,(s.sp.getD q Ahe).wa⟩).map (Ag1 T K)).sum+1≤(s.sp.map (Ag1 T K)).sum:=by omega
  have h4:=Nat.mul_le_mul_right (s.sp.length+1) h3;rw[Nat.add_mul]at h4;omega
theorem Ag3.want {T:List Int}{lo:Nat}{hi:Int}{isN:Int→Prop}{K:Nat}{s:Afd} (h:Aht T lo hi isN s) {q:Nat} (hq:q<s.sp.length):Ag3 T lo hi isN K s (s.want q):=by
 refine⟨fun p hp=>?_,by simp[Afd.want],?_⟩
 ·rcases List.mem_or_eq_of_mem_set hp with hp|rfl
  ·exact h p hp
  ·exact⟨(h _ (Ag9 hq)).1,(h _ (Ag9 hq)).2⟩
 ·have h1:=Ka (Ag1 T K) Ahe ⟨(s.at q).fr,(s.at q).st,(s.at q).ri,true⟩ s.sp q hq;have h2:=Hw (fun p:Aik=>p.ri) Ahe ⟨(s.at q).fr,(s.at q).st,(s.at q).ri,true⟩ s.sp q hq;unfold Aia Afd.want;simp only[List.length_set];have e:Ag1 T K ⟨(s.at q).fr,(s.at q).st,(s.at q).ri,true⟩=Ag1 T K (s.at q):=rfl;unfold Afd.at at h1 h2 e ⊢;rw[e]at h1;simp only at h2;have h3:((s.sp.set q ⟨(s.sp.getD q Ahe).fr,(s.sp.getD q Ahe).st,(s.sp.getD q Ahe).ri,true⟩).map (Ag1 T K)).sum=(s.sp.map (Ag1 T K)).sum:=by omega
  rw[h3];omega
theorem Ajk {T:List Int}{lo:Nat}{hi:Int}{isN:Int→Prop}{K:Nat}{s:Afd} (h:Aht T lo hi isN s) {q:Nat} (hq:q<s.sp.length) (hr:(s.at q).ri=true):Aht T lo hi isN (s.calm q)∧(s.calm q).sp.length=s.sp.length∧Aia T K (s.calm q)<Aia T K s:=by
 refine⟨fun p hp=>?_,by simp[Afd.calm],?_⟩
 ·rcases List.mem_or_eq_of_mem_set hp with hp|rfl
  ·exact h p hp
  ·exact⟨(h _ (Ag9 hq)).1,fun h=>by simp at h⟩
 ·have h1:=Ka (Ag1 T K) Ahe ⟨(s.at q).fr,(s.at q).st,false,(s.at q).wa⟩ s.sp q hq;have h2:=Hw (fun p:Aik=>p.ri) Ahe ⟨(s.at q).fr,(s.at q).st,false,(s.at q).wa⟩ s.sp q hq;unfold Aia Afd.calm;simp only[List.length_set];have e:Ag1 T K ⟨(s.at q).fr,(s.at q).st,false,(s.at q).wa⟩=Ag1 T K (s.at q):=rfl;unfold Afd.at at h1 h2 e hr ⊢;rw[e]at h1;simp only[hr,if_true,Bool.false_eq_true,if_false]at h2;have h3:((s.sp.set q ⟨(s.sp.getD q Ahe).fr,(s.sp.getD q Ahe).st,false,(s.sp.getD q Ahe).wa⟩).map (Ag1 T K)).sum=(s.sp.map (Ag1 T K)).sum:=by omega
  rw[h3];omega
theorem Ahf.arg {T:List Int}{lo:Nat}{hi:Int}{isN:Int→Prop}{x:Afb} (h:Ahf T lo hi isN x):Afy T x:=⟨fun t ht=>(h.tl t ht).1,fun t ht=>(h.ts t ht).1⟩
theorem Adk {T:List Int} (h:Tr.Ok T) {isN:Int→Prop}{a b:Int × Int} (ha:Afi T isN a) (hb:Afi T isN b):Afi T isN (Tr.joinT T a b):=by
 have j:=(Tr.join_spec h (k:=a.1) (n:=a.2) (k':=b.1) (n':=b.2) ha.1 hb.1).1;refine⟨j,?_⟩;unfold Tr.joinT
 split
 ·exact hb.2
 ·split
  ·exact ha.2
  ·split
   ·intro h;simp at h
   ·split
    ·intro h;simp at h
    ·intro h;simp at h
theorem Rv {T:List Int} (h:Tr.Ok T) {isN:Int→Prop}:∀ (a b:List (Int × Int)),(∀ t∈a,Afi T isN t)→(∀ t∈b,Afi T isN t)→∀ t∈List.zipWith (Tr.joinT T) a b,Afi T isN t
 | [],_,_,_,t,ht=>by simp at ht
 | _::_,[],_,_,t,ht=>by simp at ht
 | x::a,y::b,ha,hb,t,ht=>by
  simp only[List.zipWith_cons_cons,List.mem_cons]at ht;rcases ht with rfl | ht
  ·exact Adk h (ha x (by simp)) (hb y (by simp))
  ·exact Rv h a b (fun t ht=>ha t (by simp[ht])) (fun t ht=>hb t (by simp[ht])) t ht
theorem Sq {T:List Int} (h:Tr.Ok T) {lo:Nat}{hi:Int}{isN:Int→Prop}{x y:Afb} (hx:Ahf T lo hi isN x) (hy:Ahf T lo hi isN y):Ahf T lo hi isN (Ahu T x y):=by
 refine⟨?_,?_,Rv h _ _ hx.tl hy.tl,Rv h _ _ hx.ts hy.ts⟩
 ·have:=hx.lo;have:=hy.lo;simp[Ahu];omega
 ·have:=hx.hi;simp[Ahu];omega
theorem Ae7 {T:List Int}{lo:Nat}{hi:Int}{isN:Int→Prop}{x:Afb} (hx:Ahf T lo hi isN x):Ajt T x<(T.length+1)*(lo+hi.toNat)+1:=by
 have h1:=Rx x.locals hx.arg.1;have h2:=Rx x.stack hx.arg.2;have h3:=hx.lo;have h4:=hx.hi;have h5:=Nat.mul_le_mul_left (T.length+1) (show x.stack.length≤hi.toNat by omega);unfold Ajt;rw[Nat.mul_add];rw[h3]at h1;omega
def Aix (T:List Int) (lo:Nat) (hi:Int):Nat:=(T.length+1)*(lo+hi.toNat)+1
theorem Oi {T:List Int} (h:Tr.Ok T) {lo:Nat}{hi:Int}{isN:Int→Prop}{s:Afd} (hs:Aht T lo hi isN s) {x:Afb} (hx:x.locals.length=lo) (ht:∀ t∈x.locals,Afi T isN t) (hk:∀ t∈x.stack,Afi T isN t) (q:Int):Ag3 T lo hi isN (Aix T lo hi) s (Afo T hi x q s):=by
 unfold Afo
 split
 ·exact .stop hs
 ·next hn =>
  have hx':Ahf T lo hi isN x:=⟨hx,by omega,ht,hk⟩
  split
  ·next h1=>exact .put hs (by omega) hx' (by unfold Ag1;rw[if_neg (by simp[h1])];exact Ae7 hx')
  ·next h1 =>
   split
   ·exact .refl hs
   ·next h2 =>
    split
    ·next h3 =>
     have hy:=(hs _ (Ag9 (s:=s) (q:=q.toNat) (by omega))).1 (by simpa using h1);exact .put hs (by omega) (Sq h hx' hy) (by unfold Ag1;rw[if_pos (by simpa using h1)];exact Ac0 h hx'.arg hy.arg h3.1 h3.2 (by simpa using h2))
    ·exact .stop hs
theorem Acs {T:List Int}{lo:Nat}{hi:Int}{isN:Int→Prop}{K:Nat}{s:Afd} (hs:Aht T lo hi isN s) (q:Int):Ag3 T lo hi isN K s (Ajm q s):=by
 unfold Ajm
 split
 ·exact .want hs (by omega)
 ·exact .refl hs
theorem Ud {T:List Int} (h:Tr.Ok T) {lo:Nat}{hi:Int}{isN:Int→Prop}{s:Afd} (hs:Aht T lo hi isN s) {x:Afb} (hx:x.locals.length=lo) (ht:∀ t∈x.locals,Afi T isN t) (hk:∀ t∈x.stack,Afi T isN t) (q:Int):Ag3 T lo hi isN (Aix T lo hi) s (Agz T hi x q s):=by
 have h1:=Oi h hs hx ht hk q;exact h1.trans (Acs h1.ok q)
theorem Lj {T:List Int} (h:Tr.Ok T) {lo:Nat}{hi:Int}{isN:Int→Prop}{x:Afb} (hx:x.locals.length=lo) (ht:∀ t∈x.locals,Afi T isN t) (p:Int):∀ (hs:List Rd.Hnd),(∀ y∈hs,Tr.Arg T 3 y.cl)→∀ {s:Afd},Aht T lo hi isN s→Ag3 T lo hi isN (Aix T lo hi) s (Afn T hi p x.locals hs s)
 | [],_,s,h0=>.refl h0
 | y::r,hy,s,h0=>by
  unfold Afn;have h1:Ag3 T lo hi isN (Aix T lo hi) s (if Af2 y p=true then Agz T hi ⟨x.locals,[(3,y.cl)]⟩ y.target s else s):=by
   split
   ·exact Ud (x:=⟨x.locals,[(3,y.cl)]⟩) h h0 hx ht (by intro t ht;rw[List.mem_singleton.1 ht];exact⟨hy y (by simp),fun h=>by simp at h⟩) _
   ·exact .refl h0
  exact h1.trans (Lj h hx ht p r (fun z hz=>hy z (by simp[hz])) h1.ok)
theorem Adc {T:List Int} (h:Tr.Ok T) {lo:Nat}{hi:Int}{isN:Int→Prop}{x:Afb} (hx:Ahf T lo hi isN x) {hs:List Rd.Hnd} (hy:∀ y∈hs,Tr.Arg T 3 y.cl) {bh:Cd.Ins→Afb→Option Afb}{i:Cd.Ins} (hb:∀ y,bh i x=some y→Ahf T lo hi isN y) {s:Afd} (h0:Aht T lo hi isN s):Ag3 T lo hi isN (Aix T lo hi) s (Ah3 T hi hs bh i x s):=by
 have h1:=Lj h hx.lo hx.tl i.place hs hy h0;unfold Ah3
 split
 ·exact h1.trans (.stop h1.ok)
 ·next y e =>
  have hy':=hb y e;have h2:Ag3 T lo hi isN (Aix T lo hi) s (if Afx i.op=true then Agz T hi y i.n (Afn T hi i.place x.locals hs s) else Afn T hi i.place x.locals hs s):=by
   split
   ·exact h1.trans (Ud h h1.ok hy'.lo hy'.tl hy'.ts _)
   ·exact h1
  simp only
  split
  ·exact h2.trans (Oi h h2.ok hy'.lo hy'.tl hy'.ts _)
  ·exact h2
theorem Ig {T:List Int}{lo:Nat}{hi:Int}{isN:Int→Prop}{K:Nat}{lk:Cd.Ins→Afb→Afd→Afd}:∀ (L:List Cd.Ins),(∀ i∈L,0≤i.place) →
  (∀ i∈L,∀ x s,Ahf T lo hi isN x→Aht T lo hi isN s→Ag3 T lo hi isN K s (lk i x s)) →
  ∀ (b:Bool) {s:Afd},Aht T lo hi isN s→Ag3 T lo hi isN K s (Aff lk L b s).1∧((Aff lk L b s).2=true→b=false→Aia T K (Aff lk L b s).1<Aia T K s)
 | [],_,_,b,s,h0=>⟨.refl h0,fun h g=>by simp[Aff,g]at h⟩
 | i::r,hp,hk,b,s,h0=>by
  unfold Aff;have ih:=fun b {s:Afd} h0=>Ig (T:=T) (lo:=lo) (hi:=hi) (isN:=isN) (K:=K) (lk:=lk) r (fun z hz=>hp z (by simp[hz])) (fun z hz=>hk z (by simp[hz])) b (s:=s) h0
  split
  ·exact ih b h0
  ·next hn =>
   have hpi:=hp i (by simp);have hri:(s.at i.place.toNat).ri=true:=by
    cases h:(s.at i.place.toNat).ri with
    | true=>rfl
    | false=>exact absurd (.inr h) hn
   have hq:i.place.toNat<s.sp.length:=by
    have:¬ (s.sp.length:Int)≤i.place:=fun h=>hn (.inl h);omega
   obtain⟨c1,c2,c3⟩:=Ajk (K:=K) h0 hq hri;have hx:=(h0 _ (Ag9 hq)).1 ((h0 _ (Ag9 hq)).2 hri);have h1:=hk i (by simp) _ _ hx c1;have h2:=(ih true h1.ok).1;have hmu:=Nat.le_trans h2.mu h1.mu;exact⟨⟨h2.ok,h2.len.trans (h1.len.trans c2),by omega⟩,fun _ _=>by omega⟩
theorem Ja {T:List Int}{lo:Nat}{hi:Int}{isN:Int→Prop}{K:Nat}{lk:Cd.Ins→Afb→Afd→Afd}{L:List Cd.Ins} (hp:∀ i∈L,0≤i.place)
  (hk:∀ i∈L,∀ x s,Ahf T lo hi isN x→Aht T lo hi isN s→Ag3 T lo hi isN K s (lk i x s)):∀ (n m:Nat) {s:Afd},Aht T lo hi isN s→Aia T K s<n→Aia T K s<m→Ahn lk L n s=Ahn lk L m s
 | 0,_,s,_,h,_=>absurd h (by omega)
 | n+1,0,s,_,_,h=>absurd h (by omega)
 | n+1,m+1,s,h0,hn,hm=>by
  have h1:=Ig (K:=K) L hp hk false h0;unfold Ahn;by_cases hc:(Aff lk L false s).2=true∧(Aff lk L false s).1.hop=false
  ·rw[if_pos hc,if_pos hc];have:=h1.2 hc.1 rfl;exact Ja hp hk n m h1.1.ok (by omega) (by omega)
  ·rw[if_neg hc,if_neg hc]
def Ajw (T:List Int) (K:Nat) (lk:Cd.Ins→Afb→Afd→Afd) (L:List Cd.Ins) (s:Afd):Afd:=Ahn lk L (Aia T K s+1) s
theorem X8 {T:List Int}{lo:Nat}{hi:Int}{isN:Int→Prop}{K:Nat}{lk:Cd.Ins→Afb→Afd→Afd}{L:List Cd.Ins} (hp:∀ i∈L,0≤i.place)
  (hk:∀ i∈L,∀ x s,Ahf T lo hi isN x→Aht T lo hi isN s→Ag3 T lo hi isN K s (lk i x s)) {s:Afd} (h0:Aht T lo hi isN s) :
  Ajw T K lk L s=if (Aff lk L false s).2=true∧(Aff lk L false s).1.hop=false then Ajw T K lk L (Aff lk L false s).1 else (Aff lk L false s).1:=by
 have h1:=Ig (K:=K) L hp hk false h0;unfold Ajw;rw[Ahn];by_cases hc:(Aff lk L false s).2=true∧(Aff lk L false s).1.hop=false
 ·rw[if_pos hc,if_pos hc];have:=h1.2 hc.1 rfl;exact Ja hp hk _ _ h1.1.ok (by omega) (by omega)
 ·rw[if_neg hc,if_neg hc]
abbrev Aki (T:List Int) (s t:Int × Int):Prop:=Tr.fitsB T s.1 s.2 t.1 t.2=true
def Afw (T:List Int):List (Int × Int)→List (Int × Int)→Prop
 | [],[]=>True
 | s::a,t::b=>Aki T s t∧Afw T a b
 | _,_=>False
theorem Afw.nil {T:List Int}:Afw T [] []:=trivial
theorem Afw.cons {T:List Int}{s t:Int × Int}{a b:List (Int × Int)} (h:Aki T s t) (k:Afw T a b):Afw T (s::a) (t::b):=⟨h,k⟩
theorem Afw.el {T:List Int}{P:(a b:List (Int × Int))→Afw T a b→Prop} (nil:P [] [] .nil) (cons:∀{s t:Int × Int}{a b:List (Int × Int)} (h:Aki T s t) (k:Afw T a b),P a b k→P (s::a) (t::b) (.cons h k)):∀{a b:List (Int × Int)} (h:Afw T a b),P a b h
 | [],[],_=>nil
 | [],_::_,h=>False.elim h
 | _::_,[],h=>False.elim h
 | _::_,_::_,h=>cons h.1 h.2 (Afw.el nil cons h.2)
structure Afu (T:List Int) (x y:Afb):Prop where
 lo:Afw T x.locals y.locals
 st:Afw T x.stack y.stack
theorem Afw.len {T:List Int}{a b:List (Int × Int)} (h:Afw T a b):a.length=b.length:=by
 induction h using Afw.el with
 | nil=>rfl
 | cons _ _ ih=>simp[ih]
theorem Afw.refl (T:List Int) (a:List (Int × Int)):Afw T a a:=by
 induction a with
 | nil=>exact .nil
 | cons x r ih=>exact .cons (Tr.fits_refl _ _ _) ih
theorem Afw.trans {T:List Int} (hT:Tr.Ok T) {a b c:List (Int × Int)} (h:Afw T a b) (g:Afw T b c) (ha:∀ t∈a,Tr.Arg T t.1 t.2) (hb:∀ t∈b,Tr.Arg T t.1 t.2) (hc:∀ t∈c,Tr.Arg T t.1 t.2):Afw T a c:=by
 induction h using Afw.el generalizing c with
 | nil=>exact g
 | cons h1 h2 ih =>
  cases g using Afw.el with
  | cons g1 g2=>exact .cons (Tr.fits_trans hT (ha _ (by simp)) (hb _ (by simp)) (hc _ (by simp)) h1 g1) (ih g2 (fun t ht=>ha t (by simp[ht])) (fun t ht=>hb t (by simp[ht])) (fun t ht=>hc t (by simp[ht])))
theorem Afw.getD {T:List Int}{a b:List (Int × Int)} (h:Afw T a b) (i:Nat):Aki T (a.getD i (0,0)) (b.getD i (0,0)):=by
 induction h using Afw.el generalizing i with
 | nil=>exact Tr.fits_refl _ _ _
 | cons h1 _ ih =>
  cases i with
  | zero=>simpa using h1
  | succ i=>simpa using ih i
theorem Afw.set {T:List Int}{a b:List (Int × Int)} (h:Afw T a b) (i:Nat) {s t:Int × Int} (hs:Aki T s t):Afw T (a.set i s) (b.set i t):=by
 induction h using Afw.el generalizing i with
 | nil=>exact .nil
 | cons h1 h2 ih =>
  cases i with
  | zero=>exact .cons hs h2
  | succ i=>exact .cons h1 (ih i)
theorem Afw.take {T:List Int}{a b:List (Int × Int)} (h:Afw T a b) (i:Nat):Afw T (a.take i) (b.take i):=by
 induction h using Afw.el generalizing i with
 | nil=>simpa using Afw.nil
 | cons h1 h2 ih =>
  cases i with
  | zero=>exact .nil
  | succ i=>exact .cons h1 (ih i)
theorem Afw.drop {T:List Int}{a b:List (Int × Int)} (h:Afw T a b) (i:Nat):Afw T (a.drop i) (b.drop i):=by
 induction h using Afw.el generalizing i with
 | nil=>simpa using Afw.nil
 | cons h1 h2 ih =>
  cases i with
  | zero=>exact .cons h1 h2
  | succ i=>exact ih i
theorem Afw.append {T:List Int}{a b c d:List (Int × Int)} (h:Afw T a b) (g:Afw T c d):Afw T (a++c) (b++d):=by
 induction h using Afw.el with
 | nil=>exact g
 | cons h1 _ ih=>exact .cons h1 ih
theorem Sk {T:List Int}{s:Int × Int}{p:Int} (h:Aki T s (4,p)):s=(4,p):=by
 rcases(Tr.fits_iff ..).1 h with ⟨a,b⟩ | e|⟨e,_⟩|⟨e,_⟩
 ·exact Prod.ext a b
 ·exact absurd e (by simp)
 ·exact absurd e (by simp)
 ·exact absurd e (by simp)
theorem Aad {T:List Int}{t:Int × Int}{p:Int} (h:Aki T (4,p) t):t=(4,p)∨t.1=0:=by
 rcases(Tr.fits_iff ..).1 h with ⟨a,b⟩ | e|⟨_,e⟩|⟨_,e,_⟩
 ·exact .inl (Prod.ext a.symm b.symm)
 ·exact .inr e
 ·exact absurd e (by simp)
 ·exact absurd e (by simp)
theorem Afw.turned {T:List Int}{a b:List (Int × Int)} (h:Afw T a b) (p:Int) (u:Int × Int):Afw T (Af4 (4,p) u a) (Af4 (4,p) u b):=by
 induction h using Afw.el with
 | nil=>exact .nil
 | @cons s t a b h1 _ ih =>
  refine Afw.cons ?_ ih;show Aki T (if s=(4,p) then u else s) (if t=(4,p) then u else t)
  by_cases hs:s=(4,p)
  ·subst hs;rw[if_pos rfl];rcases Aad h1 with rfl | h0
   ·rw[if_pos rfl];exact Tr.fits_refl _ _ _
   ·rw[if_neg (by rintro rfl;simp at h0)];exact(Tr.fits_iff ..).2 (.inr (.inl h0))
  ·rw[if_neg hs];by_cases ht:t=(4,p)
   ·subst ht;exact absurd (Sk h1) hs
   ·rw[if_neg ht];exact h1
theorem Xl {T:List Int} (hT:Tr.Ok T) {a b:List (Int × Int)} (h:Afw T a b) (ha:∀ t∈a,Tr.Arg T t.1 t.2) (hb:∀ t∈b,Tr.Arg T t.1 t.2):∀ {c:List (Int × Int)},(∀ t∈c,Tr.Arg T t.1 t.2)→Aft T b c=true→Aft T a c=true:=by
 induction h using Afw.el with
 | nil=>exact fun _ h=>h
 | cons h1 _ ih =>
  intro c hc hf;cases c with
  | nil=>simp[Aft]
  | cons u c =>
   simp only[Aft,Bool.and_eq_true]at hf ⊢;exact⟨Tr.fits_trans hT (ha _ (by simp)) (hb _ (by simp)) (hc _ (by simp)) h1 hf.1,ih (fun t ht=>ha t (by simp[ht])) (fun t ht=>hb t (by simp[ht])) (fun t ht=>hc t (by simp[ht])) hf.2⟩
theorem Zq {T:List Int} (hT:Tr.Ok T) {a b c:List (Int × Int)} (h:Afw T a b) (ha:∀ t∈a,Tr.Arg T t.1 t.2) (hb:∀ t∈b,Tr.Arg T t.1 t.2) (hc:∀ t∈c,Tr.Arg T t.1 t.2) (hf:Age T b c=true):Age T a c=true:=by
 unfold Age at hf ⊢;rw[h.len];by_cases hl:b.length<c.length
 ·rw[if_pos hl]at hf;cases hf
 ·rw[if_neg hl]at hf ⊢;rw[Dy hT _ _ (fun t ht=>hb t (List.mem_of_mem_drop ht)) hc]at hf;rw[Dy hT _ _ (fun t ht=>ha t (List.mem_of_mem_drop ht)) hc];exact Xl hT (h.drop _) (fun t ht=>ha t (List.mem_of_mem_drop ht)) (fun t ht=>hb t (List.mem_of_mem_drop ht)) hc hf
theorem Vn {T:List Int} (hT:Tr.Ok T) {tk lv want:List (Int × Int)}{arg:Int→Int}{p op n:Int}{x y z:Afb} (hx:Afy T x) (hy:Afy T y) (hk:∀ t∈tk,Tr.Arg T t.1 t.2) (hw:∀ t∈want,Tr.Arg T t.1 t.2) (h:Afu T x y)
  (hz:Ah7 T tk lv want arg p op n y=some z):∃ u,Ah7 T tk lv want arg p op n x=some u∧Afu T u z:=by
 have el:=h.lo.len;have es:=h.st.len;unfold Ah7 at hz ⊢;by_cases h2:op=2
 ·rw[if_pos h2]at hz ⊢;have hg:=h.lo.getD n.toNat;by_cases hk0:(y.locals.getD n.toNat (0,0)).1=0
  ·rw[if_pos hk0]at hz;cases hz
  ·rw[if_neg hk0]at hz;have hk1:(x.locals.getD n.toNat (0,0)).1≠0:=by
    intro e;rcases(Tr.fits_iff ..).1 hg with ⟨a,_⟩ | a | ⟨_,a⟩ | ⟨_,a,_⟩<;>omega
   rw[if_neg hk1];cases hz;exact⟨_,rfl,h.lo,h.st.append (.cons hg .nil)⟩
 ·rw[if_neg h2]at hz ⊢;by_cases h3:op=3
  ·rw[if_pos h3,es]at *;by_cases hl:y.stack.length<1
   ·rw[if_pos hl]at hz;cases hz
   ·rw[if_neg hl]at hz ⊢;cases hz;exact⟨_,rfl,h.lo.set _ (h.st.getD _),h.st.take _⟩
  ·rw[if_neg h3]at hz ⊢;by_cases h4:op=4
   ·rw[if_pos h4,es]at *;by_cases hl:y.stack.length<1
    ·rw[if_pos hl]at hz;cases hz
    ·rw[if_neg hl]at hz ⊢;cases hz;exact⟨_,rfl,h.lo,h.st.take _⟩
   ·rw[if_neg h4]at hz ⊢;by_cases h5:op=5
    ·rw[if_pos h5,es]at *;by_cases hl:y.stack.length<1
     ·rw[if_pos hl]at hz;cases hz
     ·rw[if_neg hl]at hz ⊢;cases hz;exact⟨_,rfl,h.lo,h.st.append (h.st.drop _)⟩
    ·rw[if_neg h5]at hz ⊢;by_cases h6:op=6
     ·rw[if_pos h6,es]at *;by_cases hl:y.stack.length<2
      ·rw[if_pos hl]at hz;cases hz
      ·rw[if_neg hl]at hz ⊢;cases hz;exact⟨_,rfl,h.lo,(h.st.take _).append (.cons (h.st.getD _) (.cons (h.st.getD _) .nil))⟩
     ·rw[if_neg h6]at hz ⊢;by_cases h15:op=15
      ·rw[if_pos h15]at hz ⊢;cases hz;exact⟨_,rfl,h.lo.turned _ _,(h.st.turned _ _).append (.cons (Tr.fits_refl _ _ _) .nil)⟩
      ·rw[if_neg h15]at hz ⊢;by_cases h16:op=16
       ·rw[if_pos h16]at hz ⊢;unfold Aj7 at hz ⊢;rw[es]at *;by_cases ht:Age T y.stack want=false
        ·rw[if_pos ht]at hz;cases hz
        ·have ht':=Zq hT h.st hx.2 hy.2 hw (by simpa using ht);rw[if_neg ht]at hz;rw[if_neg (by simp[ht'])];by_cases hl:y.stack.length<want.length+1
         ·rw[if_pos hl]at hz;cases hz
         ·rw[if_neg hl]at hz ⊢;have hg:=h.st.getD (y.stack.length-want.length-1);have hg2:=h.st.take (y.stack.length-want.length-1);generalize y.stack.getD (y.stack.length-want.length-1) (0,0)=r at *;generalize x.stack.getD (y.stack.length-want.length-1) (0,0)=r' at *;by_cases h41:r.1≠4
          ·rw[if_pos h41]at hz;cases hz
          ·rw[if_neg h41]at hz;obtain⟨r1,r2⟩:=r;have:r1=4:=by simpa using h41
           subst this;have e:=Sk hg;subst e;rw[if_neg h41];by_cases ha:arg r2≠n
           ·rw[if_pos ha]at hz;cases hz
           ·rw[if_neg ha]at hz ⊢;cases hz;exact⟨_,rfl,h.lo.turned _ _,hg2.turned _ _⟩
       ·rw[if_neg h16]at hz ⊢;by_cases ht:Age T y.stack tk=false
        ·rw[if_pos ht]at hz;cases hz
        ·have ht':=Zq hT h.st hx.2 hy.2 hk (by simpa using ht);rw[if_neg ht,es]at *;rw[if_neg (by simp[ht'])];cases hz;exact⟨_,rfl,h.lo,(h.st.take _).append (.refl _ _)⟩
structure Afj where
 T:List Int
 lo:Nat
 hi:Int
 isN:Int→Prop
 n:Nat
 ps:List Nat
 hs:List Rd.Hnd
 rl:Nat→Afb→Option Afb
 op:Nat→Int
 ar:Nat→Int
 x0:Afb
abbrev Afj.I (E:Afj) (x:Afb):Prop:=Ahf E.T E.lo E.hi E.isN x
def Afj.nx (E:Afj) (p:Nat):Int:=(p:Int)+(Cd.wd (E.op p):Int)
structure Afj.Good (E:Afj):Prop where
 T:Tr.Ok E.T
 x0:E.I E.x0
 rl:∀ p∈E.ps,∀ x y,E.I x→E.rl p x=some y→E.I y
 mono:∀ p∈E.ps,∀ x y z,E.I x→E.I y→Afu E.T x y→E.rl p y=some z→∃ u,E.rl p x=some u∧Afu E.T u z
 tgt:∀ p∈E.ps,Afx (E.op p)=true→0≤E.ar p∧E.ar p<(E.n:Int)∧(E.ar p).toNat∈E.ps
 nxt:∀ p∈E.ps,E.nx p<(E.n:Int)→(E.nx p).toNat∈E.ps
 hnd:∀ h∈E.hs,0≤h.target∧h.target<(E.n:Int)∧h.target.toNat∈E.ps∧Tr.Arg E.T 3 h.cl
 zero:0∈E.ps
 lt:∀ p∈E.ps,p<E.n
def Agf (x:Afb) (h:Rd.Hnd):Afb:=⟨x.locals,[(3,h.cl)]⟩
def Ah2 (E:Afj) (p:Nat) (x:Afb) (q:Int) (y:Afb) (a:Bool):Prop:=(∃ h,h∈E.hs∧Af2 h (p:Int)=true∧q=h.target∧y=Agf x h∧a=true)∨(E.rl p x=some y∧Afx (E.op p)=true∧q=E.ar p∧a=true)∨(E.rl p x=some y∧Af5 (E.op p)=true∧q=E.nx p∧a=false)
theorem Ah2.hnd {E:Afj}{p:Nat}{x:Afb} (h:Rd.Hnd) (k:h∈E.hs) (c:Af2 h (p:Int)=true):Ah2 E p x h.target (Agf x h) true:=Or.inl ⟨h,k,c,rfl,rfl,rfl⟩
theorem Ah2.jmp {E:Afj}{p:Nat}{x:Afb} (y:Afb) (k:E.rl p x=some y) (c:Afx (E.op p)=true):Ah2 E p x (E.ar p) y true:=Or.inr (Or.inl ⟨k,c,rfl,rfl⟩)
theorem Ah2.nxt {E:Afj}{p:Nat}{x:Afb} (y:Afb) (k:E.rl p x=some y) (c:Af5 (E.op p)=true):Ah2 E p x (E.nx p) y false:=Or.inr (Or.inr ⟨k,c,rfl,rfl⟩)
theorem Ah2.el {E:Afj}{p:Nat}{x:Afb}{P:(q:Int)→(y:Afb)→(a:Bool)→Ah2 E p x q y a→Prop} (hnd:∀ (h:Rd.Hnd) (k:h∈E.hs) (c:Af2 h (p:Int)=true),P _ _ _ (.hnd h k c)) (jmp:∀ (y:Afb) (k:E.rl p x=some y) (c:Afx (E.op p)=true),P _ _ _ (.jmp y k c)) (nxt:∀ (y:Afb) (k:E.rl p x=some y) (c:Af5 (E.op p)=true),P _ _ _ (.nxt y k c)){q:Int}{y:Afb}{a:Bool} (h:Ah2 E p x q y a):P q y a h:=by
 rcases h with ⟨h,k,c,rfl,rfl,rfl⟩|⟨k,c,rfl,rfl⟩|⟨k,c,rfl,rfl⟩
 ·exact hnd h k c
 ·exact jmp y k c
 ·exact nxt y k c
structure Ako (E:Afj) (F:Nat→Option Afb) (W:Nat→Prop) (p:Nat) (x:Afb):Prop where
 rl:∃ y,E.rl p x=some y
 go:∀ q y a,Ah2 E p x q y a→0≤q∧q<(E.n:Int)∧(y.stack.length:Int)≤E.hi∧(∃ z,F q.toNat=some z∧Afu E.T y z)∧(a=true→W q.toNat)
structure Ait (E:Afj) (F:Nat→Option Afb):Prop where
 inv:∀ p x,F p=some x→E.I x
 x0:∃ y,F 0=some y∧Afu E.T E.x0 y
 sat:∀ p∈E.ps,∀ x,F p=some x→Ako E F (fun _=>True) p x
def Aj5 (E:Afj) (p q:Nat):Prop:=(∃ h∈E.hs,Af2 h (p:Int)=true∧h.target.toNat=q)∨(Afx (E.op p)=true∧(E.ar p).toNat=q)
theorem Afu.refl (T:List Int) (x:Afb):Afu T x x:=⟨.refl _ _,.refl _ _⟩
theorem Afu.trans {E:Afj} (g:E.Good) {x y z:Afb} (h:Afu E.T x y) (k:Afu E.T y z) (hx:Afy E.T x) (hy:Afy E.T y) (hz:Afy E.T z):Afu E.T x z :=
 ⟨h.lo.trans g.T k.lo hx.1 hy.1 hz.1,h.st.trans g.T k.st hx.2 hy.2 hz.2⟩
theorem Fc {T:List Int}:∀ {a b:List (Int × Int)},a.length=b.length→(Aft T a b=true↔Afw T a b)
 | [],[],_=>⟨fun _=>.nil,fun _=>rfl⟩
 | [],_::_,h=>by simp at h
 | _::_,[],h=>by simp at h
 | s::a,t::b,h=>by
  have ih:=Fc (T:=T) (a:=a) (b:=b) (by simpa using h);simp only[Aft,Bool.and_eq_true]
  constructor
  ·rintro ⟨h1,h2⟩;exact .cons h1 (ih.1 h2)
  ·intro k;cases k using Afw.el with
   | cons k1 k2=>exact⟨k1,ih.2 k2⟩
theorem Ih {T:List Int}{x y:Afb}:Agv T x y=true↔Afu T x y:=by
 unfold Agv Ah9
 constructor
 ·intro h;simp only[Bool.and_eq_true]at h;obtain⟨h1,h2⟩:=h
  split at h1
  ·next e1 =>
   split at h2
   ·next e2=>exact⟨(Fc e1).1 h1,(Fc e2).1 h2⟩
   ·cases h2
  ·cases h1
 ·intro h;rw[if_pos h.lo.len,if_pos h.st.len,(Fc h.lo.len).2 h.lo,(Fc h.st.len).2 h.st];rfl
theorem Ma {T:List Int} (hT:Tr.Ok T):∀ (a b:List (Int × Int)),(∀ t∈a,Tr.Arg T t.1 t.2)→(∀ t∈b,Tr.Arg T t.1 t.2)→a.length=b.length →
  Afw T a (List.zipWith (Tr.joinT T) a b)∧Afw T b (List.zipWith (Tr.joinT T) a b)∧∀ c,(∀ t∈c,Tr.Arg T t.1 t.2)→Afw T a c→Afw T b c→Afw T (List.zipWith (Tr.joinT T) a b) c
 | [],[],_,_,_=>⟨.nil,.nil,fun c _ h _=>h⟩
 | [],_::_,_,_,h=>by simp at h
 | _::_,[],_,_,h=>by simp at h
 | s::a,t::b,ha,hb,h=>by
  obtain⟨i1,i2,i3⟩:=Ma hT a b (fun t ht=>ha t (by simp[ht])) (fun t ht=>hb t (by simp[ht])) (by simpa using h);obtain⟨_,j1,j2,j3⟩:=Tr.join_spec hT (k:=s.1) (n:=s.2) (k':=t.1) (n':=t.2) (ha s (by simp)) (hb t (by simp));refine⟨.cons j1 i1,.cons j2 i2,fun c hc h1 h2=>?_⟩;cases h1 using Afw.el with
  | cons h11 h12 =>
   cases h2 using Afw.el with
   | cons h21 h22=>exact .cons (j3 _ _ (hc _ (by simp)) h11 h21) (i3 _ (fun t ht=>hc t (by simp[ht])) h12 h22)
theorem Va {T:List Int} (hT:Tr.Ok T) {x y:Afb} (hx:Afy T x) (hy:Afy T y) (hl:x.locals.length=y.locals.length) (hs:x.stack.length=y.stack.length) :
  Afu T x (Ahu T x y)∧Afu T y (Ahu T x y)∧∀ z,Afy T z→Afu T x z→Afu T y z→Afu T (Ahu T x y) z:=by
 obtain⟨a1,a2,a3⟩:=Ma hT x.locals y.locals hx.1 hy.1 hl;obtain⟨b1,b2,b3⟩:=Ma hT x.stack y.stack hx.2 hy.2 hs;exact⟨⟨a1,b1⟩,⟨a2,b2⟩,fun z hz h1 h2=>⟨a3 _ hz.1 h1.lo h2.lo,b3 _ hz.2 h1.st h2.st⟩⟩
theorem Yd {E:Afj} (g:E.Good) {p:Nat} (hp:p∈E.ps) {x y:Afb} (hx:E.I x) (hy:E.I y) (h:Afu E.T x y) {q:Int}{u:Afb}{a:Bool} (hg:Ah2 E p x q u a) (hr:∃ z,E.rl p y=some z):∃ z,Ah2 E p y q z a∧Afu E.T u z:=by
 cases hg using Ah2.el with
 | hnd k hk hc=>exact⟨_,.hnd k hk hc,h.lo,.refl _ _⟩
 | jmp _ h1 h2 =>
  obtain⟨z,hz⟩:=hr;obtain⟨u',h3,h4⟩:=g.mono p hp x y z hx hy h hz;rw[h1]at h3;cases h3;exact⟨z,.jmp z hz h2,h4⟩
 | nxt _ h1 h2 =>
  obtain⟨z,hz⟩:=hr;obtain⟨u',h3,h4⟩:=g.mono p hp x y z hx hy h hz;rw[h1]at h3;cases h3;exact⟨z,.nxt z hz h2,h4⟩
theorem J9 {E:Afj} (g:E.Good) {p:Nat} (hp:p∈E.ps) {x:Afb} (hx:E.I x) {q:Int}{u:Afb}{a:Bool} (hg:Ah2 E p x q u a):u.locals.length=E.lo∧(∀ t∈u.locals,Afi E.T E.isN t)∧∀ t∈u.stack,Afi E.T E.isN t:=by
 cases hg using Ah2.el with
 | hnd k hk hc=>exact⟨hx.lo,hx.tl,fun t ht=>by rw[List.mem_singleton.1 ht];exact⟨(g.hnd k hk).2.2.2,fun h=>by simp at h⟩⟩
 | jmp _ h1 _=>have:=g.rl p hp x u hx h1;exact⟨this.lo,this.tl,this.ts⟩
 | nxt _ h1 _=>have:=g.rl p hp x u hx h1;exact⟨this.lo,this.tl,this.ts⟩
theorem Abt {E:Afj}{p:Nat}{x:Afb}{q:Int}{u:Afb} (hg:Ah2 E p x q u true):Aj5 E p q.toNat:=by
 cases hg using Ah2.el with
 | hnd k hk hc=>exact .inl ⟨k,hk,hc,rfl⟩
 | jmp _ h1 h2=>exact .inr ⟨h2,rfl⟩
theorem Acz {E:Afj} (g:E.Good) {p:Nat} (hp:p∈E.ps) {x:Afb}{q:Int}{u:Afb}{a:Bool} (hg:Ah2 E p x q u a) (hq:q<(E.n:Int)):q.toNat∈E.ps:=by
 cases hg using Ah2.el with
 | hnd k hk hc=>exact(g.hnd k hk).2.2.1
 | jmp _ h1 h2=>exact(g.tgt p hp h2).2.2
 | nxt _ h1 _=>exact g.nxt p hp hq
end Go.Proofs.YtpcgnjolfahacaaGreat
