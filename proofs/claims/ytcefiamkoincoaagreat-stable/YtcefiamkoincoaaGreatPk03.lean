/- a part of the proof in YtcefiamkoincoaaGreatStableProof -/
import Derived.Laws.AppendOwnNone
import Derived.Deep.RegionHeld3
import Derived.Test.YtcefiamkoincoaaGreatPk02
set_option maxRecDepth 100000
set_option maxHeartbeats 40000000
namespace Go.Proofs.YtcefiamkoincoaaGreat
open Go.RowKit
theorem Ho (s:List UInt8):(Rd.read s).2=(if 15000 < s.length then 1 else if (Rf.fil s).2.2 ≠ (s.length:Int) then 2 else 0) ∧
  ((Rd.read s).2=0→(Rd.read s).1.classes=(Rf.fil s).1∧(Rd.read s).1.methods=(Rf.fil s).2.1.map Rf.Mth.m):=by
 obtain ⟨h1,h2⟩:=Rf.fil_same s;unfold Rd.read;by_cases hl:15000 < s.length
 ·rw [if_pos hl,if_pos hl];exact ⟨rfl,fun h=>absurd h (by decide)⟩
 ·rw [if_neg hl,if_neg hl];by_cases hf:(Rf.fil s).2.2=(s.length:Int)
  ·obtain ⟨b,p⟩:=h1.2 hf;rw [if_neg (by rw [b,p];simp),if_neg (fun h=>h hf)];exact ⟨rfl,fun _=>h2 hf⟩
  ·rw [if_pos hf];have hn:(Rd.fil s ⟨0,false⟩).2.bad=true∨(Rd.fil s ⟨0,false⟩).2.pos ≠ s.length:=by
    rcases Bool.eq_false_or_eq_true (Rd.fil s ⟨0,false⟩).2.bad with hb | hb
    ·exact .inl hb
    ·right
     intro hp;exact hf (h1.1 ⟨hb,hp⟩)
   rw [if_pos hn];exact ⟨rfl,fun h=>absurd h (by decide)⟩
theorem N7 (s:List UInt8) (t:Rd.St):0≤(Rd.nx s t).1:=by
 unfold Rd.nx
 split
 ·simp
 ·split
  ·simp
  ·simp only;omega
theorem Ot (s:List UInt8):∀ c∈(Rd.read s).1.classes,0≤c.above:=by
 unfold Rd.read
 split
 ·simp
 ·split
  ·simp
  ·simp only [Rd.fil];refine Dy (fun c:Rd.Cls=>0≤c.above) _ (fun t=>?_) _ _;simp only [Rd.cls];exact N7 s t
theorem Xp (l:List Int) (cs:List Rd.Cls):∀ k:Nat,(Tr.inCl l k cs).1=0→∀ i,i < cs.length→(cs.map Rd.Cls.above).getD i 0 < 7+(k:Int)+(i:Int):=by
 induction cs with
 | nil=>intro k _ i hi;simp at hi
 | cons c r ih =>
  intro k h i hi;unfold Tr.inCl at h;by_cases h1:7+(k:Int)≤c.above
  ·rw [if_pos h1] at h;simp at h
  ·rw [if_neg h1] at h;by_cases h2:Tr.allPlainB l c.fields=false
   ·rw [if_pos h2] at h;simp at h
   ·rw [if_neg h2] at h;cases i with
    | zero=>simp;omega
    | succ j =>
     have:=ih (k+1) h j (by simpa using hi);simp only [List.map_cons,List.getD_cons_succ];omega
theorem P9 (cs:List Rd.Cls) (h0:∀ c∈cs,0≤c.above) (h:(Tr.inCl (Tr.tree cs) 0 cs).1=0):Tr.Ok (Tr.tree cs):=by
 refine ⟨by rw [Bj];omega,rfl,fun i hi hl=>?_⟩;rw [Bj] at hl;by_cases h7:i < 7
 ·have:i=1∨i=2∨i=3∨i=4∨i=5∨i=6:=by omega
  rcases this with rfl | rfl | rfl | rfl | rfl | rfl <;> (unfold Tr.tree Tr.given;simp)
 ·obtain ⟨j,rfl⟩:∃ j,i=7+j:=⟨i - 7,by omega⟩;have hj:j < cs.length:=by omega
  have e:(Tr.tree cs).getD (7+j) 0=(cs.map Rd.Cls.above).getD j 0:=by
   unfold Tr.tree;rw [List.getD_eq_getElem?_getD,List.getD_eq_getElem?_getD,List.getElem?_append_right (by simp [Tr.given])];simp [Tr.given]
  rw [e];have hlt:=Xp _ cs 0 h j hj;refine ⟨?_,by omega⟩;have hg:(cs.map Rd.Cls.above).getD j 0=cs[j].above:=by simp [List.getD_eq_getElem?_getD,hj]
  rw [hg];exact h0 _ (List.getElem_mem hj)
theorem Qy (s:List UInt8) (h:(Rf.classed s).1=0):Tr.Ok (Tr.tree (Rf.fil s).1)∧(Rd.read s).1.classes=(Rf.fil s).1:=by
 obtain ⟨h1,h2⟩:=Ho s;unfold Rf.classed at h;by_cases hl:15000 < s.length
 ·rw [if_pos hl] at h;simp at h
 ·rw [if_neg hl] at h h1;by_cases hf:(Rf.fil s).2.2 ≠ (s.length:Int)
  ·rw [if_pos hf] at h;simp at h
  ·rw [if_neg hf] at h h1;have hc:=(h2 h1).1;refine ⟨P9 _ (fun c hc'=>Ot s c (by rw [hc];exact hc')) ?_,hc⟩;by_cases hb:0≤Tr.badOf (Tr.inCl (Tr.tree (Rf.fil s).1) 0 (Rf.fil s).1)
   ·rw [if_pos hb] at h;simp at h
   ·unfold Tr.badOf at hb;by_cases h0:(Tr.inCl (Tr.tree (Rf.fil s).1) 0 (Rf.fil s).1).1=0
    ·exact h0
    ·rw [if_neg h0] at hb
     exfalso
     have gen:∀ (l:List Int) (k:Nat) (cs:List Rd.Cls),0≤(Tr.inCl l k cs).2:=by
      intro l k cs
      induction cs generalizing k with
      | nil=>simp [Tr.inCl]
      | cons c r ih =>
       unfold Tr.inCl
       split
       ·simp only;omega
       ·split
        ·simp only;omega
        ·exact ih _
     exact hb (gen _ _ _)
end Go.Proofs.YtcefiamkoincoaaGreat
namespace Go.Proofs.YtcefiamkoincoaaGreat.Cd
def wd (op:Int):Nat:=if op=0∨op=2∨op=3∨(11≤op∧op≤21) then 2 else 1
theorem wd_bd (op:Int):1≤wd op∧wd op≤2:=by unfold wd;split <;> omega
def starts (c:List Int):Nat→Nat→List Nat
 | 0,_=>[]
 | k+1,p=>if p < c.length then p :: starts c k (p+wd (c.getD p 0)) else []
def places (c:List Int):List Nat:=starts c c.length 0
theorem starts_end {c:List Int}{k p:Nat} (h:c.length≤p):starts c k p=[]:=by
 cases k with
 | zero=>rfl
 | succ j=>unfold starts;rw [if_neg (by omega)]
theorem starts_go {c:List Int}{k p:Nat} (h:p < c.length) (hk:c.length≤p+k):∃ j,k=j+1∧c.length≤(p+wd (c.getD p 0))+j∧starts c k p=p :: starts c j (p+wd (c.getD p 0)):=by
 obtain ⟨j,rfl⟩:∃ j,k=j+1:=⟨k - 1,by omega⟩;have:=wd_bd (c.getD p 0);refine ⟨j,rfl,by omega,?_⟩;rw [starts,if_pos h]
def first (f:Nat→Bool):List Nat→Int
 | []=>-1
 | p :: r=>if f p=true then (p:Int) else first f r
def begB (c:List Int) (place:Int):Bool:=(places c).any fun p=>(p:Int) == place
def noRead (c:List Int) (p:Nat):Bool:=decide (25 < c.getD p 0) || decide (c.length < p+wd (c.getD p 0))
def unread (c:List Int):Int:=first (noRead c) (places c)
end Go.Proofs.YtcefiamkoincoaaGreat.Cd
namespace Go.Proofs.YtcefiamkoincoaaGreat
open Go.RowKit
theorem Hg (l:List (Int × Int)):(Ak l).length=l.length * 2:=by
 induction l with
 | nil=>rfl
 | cons x r ih=>simp [Ak] at ih ⊢;omega
theorem Ea (l r:List (Int × Int)):Ak (l ++ r)=Ak l ++ Ak r:=by simp [Ak]
theorem Ra (l:List (Int × Int)):∀ u∈Ak l,u.oneCell'=true:=by
 intro u hu;simp only [Ak,List.mem_flatMap,List.mem_cons,List.not_mem_nil,or_false] at hu;obtain ⟨x,_,rfl | rfl⟩:=hu <;> rfl
def Rf.allTo (T:List Int) (cs:List Rd.Cls) (c:Int):Nat→List (Int × Int)
 | 0=>[]
 | d+1=>Rf.allTo T cs c d ++ (if Tr.rbel T c (d:Int)=true then (cs.getD d ⟨0,[]⟩).fields else [])
def Rf.all (T:List Int) (cs:List Rd.Cls) (c:Nat):List (Int × Int):=Rf.allTo T cs (c:Int) (c+1)
structure Rf.Fld where
 owner:Int
 slot:Int
 t:Int × Int
def Rf.ownTo (c base:Int) (own:List (Int × Int)):Nat→List Rf.Fld
 | 0=>[]
 | k+1=>Rf.ownTo c base own k ++ [⟨c,base+(k:Int),own.getD k (0,0)⟩]
def Rf.ownOf (T:List Int) (cs:List Rd.Cls) (c:Nat):List Rf.Fld :=
 Rf.ownTo (c:Int) (((Rf.all T cs c).length:Int) - (((cs.getD c ⟨0,[]⟩).fields.length:Nat):Int)) (cs.getD c ⟨0,[]⟩).fields (cs.getD c ⟨0,[]⟩).fields.length
def Rf.fieldsTo (T:List Int) (cs:List Rd.Cls):Nat→List Rf.Fld
 | 0=>[]
 | j+1=>Rf.fieldsTo T cs j ++ Rf.ownOf T cs (7+j)
theorem Ez (c base:Int) (own:List (Int × Int)) (k:Nat):(Rf.ownTo c base own k).length=k:=by
 induction k with
 | zero=>rfl
 | succ j ih=>simp [Rf.ownTo,ih]
theorem Eg {α:Type} (f:α→List Value) (n:Nat) (hf:∀ x,(f x).length=n) (l:List α) (k:Nat) (hk:k < l.length) (j:Nat) (hj:j < n):(l.flatMap f)[k * n+j]?=(f l[k])[j]?:=by
 induction l generalizing k with
 | nil=>simp at hk
 | cons x r ih =>
  rw [List.flatMap_cons];cases k with
  | zero =>
   rw [List.getElem?_append_left (by rw [hf];omega)]
   simp
  | succ i =>
   rw [List.getElem?_append_right (by rw [hf,Nat.succ_mul];omega),hf,show (i+1) * n+j - n=i * n+j by rw [Nat.succ_mul];omega]
   simpa using ih i (by simpa using hk)
theorem Dt {α:Type} (f:α→List Value) (n:Nat) (hf:∀ x,(f x).length=n) (l:List α):(l.flatMap f).length=l.length * n:=by
 induction l with
 | nil=>simp
 | cons x r ih=>rw [List.flatMap_cons,List.length_append,hf,ih,List.length_cons,Nat.succ_mul];omega
def Cd.argB (T:List Int) (nf:Int) (ow:List Int) (lo:Int) (c:List Int) (op n:Int):Bool :=
 if op=2∨op=3 then decide (n < lo)
 else if 11≤op∧op≤14 then Cd.begB c n
 else if op=15∨op=16∨op=19 then Tr.hasB T n
 else if op=17∨op=18 then decide (n < nf)
 else if op=20 then decide (n < (ow.length:Int)) && (ow.getD n.toNat 0 == 255)
 else if op=21 then decide (n < (ow.length:Int)) && (ow.getD n.toNat 0 != 255)
 else true
def Cd.nAt (c:List Int) (p:Nat):Int:=if p+1 < c.length then c.getD (p+1) 0 else -1
def Cd.argAt (T:List Int) (nf:Int) (ow:List Int) (lo:Int) (c:List Int) (p:Nat):Bool:=Cd.argB T nf ow lo c (c.getD p 0) (Cd.nAt c p)
def Cd.badArg (T:List Int) (nf:Int) (ow:List Int) (lo:Int) (c:List Int) (p:Nat):Bool:=!Cd.argAt T nf ow lo c p
def Cd.badCode (T:List Int) (nf:Int) (ow:List Int) (lo:Int) (c:List Int):Int :=
 if 0≤Cd.unread c then Cd.unread c else Cd.first (Cd.badArg T nf ow lo c) (Cd.places c)
theorem Td {f:Nat→Bool}{p:Nat}{r:List Nat} (h:Cd.first f (p :: r) < 0):f p=false∧Cd.first f r < 0:=by
 rw [Cd.first] at h
 by_cases hp:f p=true
 ·rw [if_pos hp] at h;omega
 ·rw [if_neg hp] at h;exact ⟨by simpa using hp,h⟩
def Cd.hndBad (T:List Int) (c:List Int) (x:Rd.Hnd):Bool :=
 decide (x.til≤x.frm) || !Cd.begB c x.frm || !Cd.begB c x.target || (!Cd.begB c x.til && (x.til != (c.length:Int))) || !Tr.hasB T x.cl || !Tr.rbel T x.cl 1
def Cd.firstIx {α:Type} (f:α→Bool):Nat→List α→Int
 | _,[]=>-1
 | k,x :: r=>if f x=true then (k:Int) else Cd.firstIx f (k+1) r
theorem Au (l:List Rd.Hnd) (k:Nat) (hk:k < l.length) (j:Nat) (hj:j < 4):(A5 l)[k * 4+j]?=[Value.int .i64 l[k].frm,.int .i64 l[k].til,.int .i64 l[k].target,.int .i64 l[k].cl][j]?∧k * 4+j < (A5 l).length:=by
 refine ⟨Eg (fun x:Rd.Hnd=>[Value.int .i64 x.frm,.int .i64 x.til,.int .i64 x.target,.int .i64 x.cl]) 4 (fun _=>rfl) l k hk j hj,?_⟩;unfold A5;rw [Dt (fun x:Rd.Hnd=>[Value.int .i64 x.frm,.int .i64 x.til,.int .i64 x.target,.int .i64 x.cl]) 4 (fun _=>rfl) l];omega
theorem Mb {c:List Int}{k p q:Nat} (h:q∈Cd.starts c k p):q < c.length:=by
 induction k generalizing p with
 | zero=>simp [Cd.starts] at h
 | succ j ih =>
  unfold Cd.starts at h;by_cases hp:p < c.length
  ·rw [if_pos hp] at h;rcases List.mem_cons.1 h with rfl | h
   ·exact hp
   ·exact ih h
  ·rw [if_neg hp] at h;simp at h
theorem Eh {c:List Int}{n:Int} (h:Cd.begB c n=true):0≤n∧n < (c.length:Int):=by
 unfold Cd.begB Cd.places at h;rw [List.any_eq_true] at h;obtain ⟨p,hp,hn⟩:=h;have:=Mb hp;simp at hn;omega
def Cd.framed (T c:List Int) (k n:Int):Bool :=
 if k=0∨k=1∨k=2 then n == 0 else if k=3 then Tr.hasB T n else if k=4 then Cd.begB c n && (c.getD n.toNat 0 == 15) else false
def Cd.frAll (T c:List Int) (l:List (Int × Int)):Bool:=l.all fun t=>Cd.framed T c t.1 t.2
def Cd.mapsBad (T c:List Int):Nat→Int→List Rd.Mp→Int
 | _,_,[]=>-1
 | i,last,x :: r=>if Cd.begB c x.place=false then (i:Int) else if x.place≤last then (i:Int) else if Cd.frAll T c x.locals=false then (i:Int) else if Cd.frAll T c x.stack=false then (i:Int) else Cd.mapsBad T c (i+1) x.place r
theorem Bg (l:List (Rd.Mp × Value × Value)) (k:Nat) (hk:k < l.length) (j:Nat) (hj:j < 3):(Ch l)[k * 3+j]?=[Value.int .i64 l[k].1.place,l[k].2.1,l[k].2.2][j]?∧k * 3+j < (Ch l).length:=by
 refine ⟨Eg (fun x:Rd.Mp × Value × Value=>[Value.int .i64 x.1.place,x.2.1,x.2.2]) 3 (fun _=>rfl) l k hk j hj,?_⟩;unfold Ch;rw [Dt (fun x:Rd.Mp × Value × Value=>[Value.int .i64 x.1.place,x.2.1,x.2.2]) 3 (fun _=>rfl) l];omega
theorem Nt {α:Type} [DecidableEq α] {a b:List α}{k:Nat} (ha:k < a.length) (hb:k < b.length):decide (a.drop k=b.drop k)=(decide (a[k]=b[k]) && decide (a.drop (k+1)=b.drop (k+1))):=by
 rw [List.drop_eq_getElem_cons ha,List.drop_eq_getElem_cons hb];simp only [List.cons.injEq];exact Bool.decide_and _ _
def Hd.clash (T:List Int) (cl nm r1 r2:Int) (ps:List (Int × Int)) (k i:Nat) (x:Rd.Mth):Bool :=
 if x.name ≠ nm then false else if x.cl=255 then false else if x.cl=cl then decide (i < k)
 else Tr.rbel T cl x.cl && (!decide (x.params=ps) || !decide (x.result=(r1,r2)))
def Hd.okTo (T:List Int) (cl nm r1 r2:Int) (ps:List (Int × Int)) (k:Nat):Nat→List Rd.Mth→Bool
 | _,[]=>true
 | i,x :: r=>if Hd.clash T cl nm r1 r2 ps k i x=true then false else Hd.okTo T cl nm r1 r2 ps k (i+1) r
def Hd.bad1 (T:List Int) (cl nm r1 r2:Int):Bool :=
 (if cl=255 then !decide (nm=0) else (!Tr.hasB T cl || decide (cl < 7))) || (!Tr.plainB T r1 r2 && !decide ((r1,r2)=(0,0)))
def Hd.bad3 (cl lo:Int) (ps:List (Int × Int)):Bool:=decide (lo < (ps.length:Int)) || (!decide (cl=255) && decide (lo=(ps.length:Int)))
def Hd.headB (T:List Int) (ms:List Rd.Mth) (k:Nat) (cl nm r1 r2 lo:Int) (ps:List (Int × Int)):Bool :=
 if Hd.bad1 T cl nm r1 r2=true then false else if Tr.allPlainB T ps=false then false else if Hd.bad3 cl lo ps=true then false
 else if cl=255 then true else Hd.okTo T cl nm r1 r2 ps k 0 ms
theorem Rn (s:List UInt8) (i:Int) (n:Nat):(Rf.codeTo s i n).length=n:=by
 induction n with
 | zero=>rfl
 | succ k ih=>simp [Rf.codeTo,ih]
def Fm.headOk (T:List Int) (ms:List Rd.Mth) (k:Nat) (m:Rd.Mth):Bool:=Hd.headB T ms k m.cl m.name m.result.1 m.result.2 m.locals m.params
def Fm.heads (T:List Int) (ms:List Rd.Mth):Nat→List Rd.Mth→Int
 | _,[]=>-1
 | k,m :: r=>if Fm.headOk T ms k m=false then (k:Int) else Fm.heads T ms (k+1) r
def Fm.body (T:List Int) (nf:Int) (ow:List Int) (m:Rd.Mth):Int × Int :=
 if 0≤Cd.badCode T nf ow m.locals m.code then (5,Cd.badCode T nf ow m.locals m.code)
 else if 0≤Cd.firstIx (Cd.hndBad T m.code) 0 m.handlers then (6,Cd.firstIx (Cd.hndBad T m.code) 0 m.handlers)
 else if 0≤Cd.mapsBad T m.code 0 (-1) m.maps then (7,Cd.mapsBad T m.code 0 (-1) m.maps)
 else (0,0)
def Fm.bodies (T:List Int) (nf:Int) (ow:List Int):Nat→List Rd.Mth→Int × Int × Int
 | _,[]=>(0,0,0)
 | k,m :: r=>if (Fm.body T nf ow m).1 ≠ 0 then ((Fm.body T nf ow m).1,(k:Int),(Fm.body T nf ow m).2) else Fm.bodies T nf ow (k+1) r
def Fm.rest (T:List Int) (nf:Int) (ms:List Rd.Mth):Int × Int × Int :=
 if 0≤Fm.heads T ms 0 ms then (4,Fm.heads T ms 0 ms,0) else Fm.bodies T nf (ms.map Rd.Mth.cl) 0 ms
def Rf.nf (s:List UInt8):Int:=((Rf.fieldsTo (Tr.tree (Rf.fil s).1) (Rf.given ++ (Rf.fil s).1) (Rf.fil s).1.length).length:Int)
def Rf.formed (s:List UInt8):Int × Int × Int :=
 if (Rf.classed s).1 ≠ 0 then ((Rf.classed s).1,(Rf.classed s).2,0) else Fm.rest (Tr.tree (Rf.fil s).1) (Rf.nf s) ((Rf.fil s).2.1.map Rf.Mth.m)
def Rf.chain (e:Int):Int→List Rf.Mth→Prop
 | i,[]=>i=e
 | i,x :: r=>i≤x.mapsAt∧x.mapsAt≤x.fin∧Rf.chain e x.fin r
theorem Qz {i e:Int}{l:List Rf.Mth}{x:Rf.Mth} (h:Rf.chain e i l) (h1:e≤x.mapsAt) (h2:x.mapsAt≤x.fin):Rf.chain x.fin i (l ++ [x]):=by
 induction l generalizing i with
 | nil=>rw [Rf.chain] at h;subst h;exact ⟨h1,h2,rfl⟩
 | cons y r ih=>exact ⟨h.1,h.2.1,ih h.2.2⟩
theorem Ni {i e:Int}{l:List Rf.Mth} (h:Rf.chain e i l):i≤e:=by
 induction l generalizing i with
 | nil=>rw [Rf.chain] at h;omega
 | cons y r ih=>have:=ih h.2.2;have h1:=h.1;have h2:=h.2.1;omega
theorem P4 {α:Type} (f:Int→α × Int) (hf:∀ i,0≤i→0≤(f i).2→i≤(f i).2) (n:Nat) (i:Int) (_hi:0≤i) (h:0≤(Rf.rep f n i).2):i≤(Rf.rep f n i).2:=by
 induction n with
 | zero=>simp [Rf.rep]
 | succ k ih =>
  unfold Rf.rep at h ⊢;by_cases h1:(Rf.rep f k i).2 < 0
  ·rw [if_pos h1] at h;simp at h
  ·rw [if_neg h1] at h ⊢;by_cases h2:(f (Rf.rep f k i).2).2 < 0
   ·rw [if_pos h2] at h;simp at h
   ·rw [if_neg h2] at h ⊢;simp only at h ⊢;have a:=ih (by omega);have b:=hf (Rf.rep f k i).2 (by omega) h;omega
theorem Yj (s:List UInt8) (i L H:Int) (hi:0≤i) (hL:0≤L) (h:0≤(Rf.mps s i L H).2):i≤(Rf.mps s i L H).2:=by
 unfold Rf.mps at h ⊢;by_cases h1:Rf.cnt s i 0 64 < 0
 ·rw [if_pos h1] at h;simp at h
 ·rw [if_neg h1] at h ⊢;have:=P4 (Rf.mp s L H) (fun j hj hjj=>by
   unfold Rf.mp at hjj ⊢;by_cases h2:Rf.cnt s (j+1+2 * L) 0 H < 0
   ·rw [if_pos h2] at hjj;simp at hjj
   ·rw [if_neg h2];simp only;omega) _ (i+1) (by omega) h
  omega
theorem T2 (s:List UInt8) (i:Int) (_hi:0≤i) (h:0≤(Rf.mth s i).2):i≤(Rf.mth s i).1.mapsAt∧(Rf.mth s i).1.mapsAt≤(Rf.mth s i).1.fin∧(Rf.mth s i).1.fin=(Rf.mth s i).2:=by
 unfold Rf.mth at h ⊢;dsimp only at h ⊢;have n1:¬ (0:Int)≤-1:=by omega
 by_cases h1:Rf.cnt s (i+2) 0 4 < 0
 ·rw [if_pos h1] at h;exact absurd h n1
 ·rw [if_neg h1] at h ⊢;by_cases h2:Rf.cnt s (i+3+2 * Rf.cnt s (i+2) 0 4+2) 0 8 < 0
  ·rw [if_pos h2] at h;exact absurd h n1
  ·rw [if_neg h2] at h ⊢;by_cases h3:Rf.cnt s (i+3+2 * Rf.cnt s (i+2) 0 4+3) 0 8 < 0
   ·rw [if_pos h3] at h;exact absurd h n1
   ·rw [if_neg h3] at h ⊢;by_cases h4:Rf.cnt s (i+3+2 * Rf.cnt s (i+2) 0 4+4) 1 120 < 0
    ·rw [if_pos h4] at h;exact absurd h n1
    ·rw [if_neg h4] at h ⊢;by_cases h5:(s.length:Int) < i+3+2 * Rf.cnt s (i+2) 0 4+5+Rf.cnt s (i+3+2 * Rf.cnt s (i+2) 0 4+4) 1 120
     ·rw [if_pos h5] at h;exact absurd h n1
     ·rw [if_neg h5] at h ⊢;by_cases h6:(Rf.hnds s (i+3+2 * Rf.cnt s (i+2) 0 4+5+Rf.cnt s (i+3+2 * Rf.cnt s (i+2) 0 4+4) 1 120)).2 < 0
      ·rw [if_pos h6] at h;exact absurd h n1
      ·rw [if_neg h6] at h ⊢;simp only at h ⊢;have hm:=Yj s _ _ _ (by omega) (by omega) h;refine ⟨?_,hm,trivial⟩;unfold Rf.hnds at h6 ⊢
       split
       ·rename_i g;rw [if_pos g] at h6;simp at h6
       ·split
        ·rename_i g1 g2;rw [if_neg g1,if_pos g2] at h6;simp at h6
        ·simp only;omega
theorem Tz (s:List UInt8) (n:Nat) (i:Int) (_hi:0≤i) (h:0≤(Rf.rep (Rf.mth s) n i).2):Rf.chain (Rf.rep (Rf.mth s) n i).2 i (Rf.rep (Rf.mth s) n i).1:=by
 induction n with
 | zero=>simp [Rf.rep,Rf.chain]
 | succ k ih =>
  unfold Rf.rep at h ⊢;by_cases h1:(Rf.rep (Rf.mth s) k i).2 < 0
  ·rw [if_pos h1] at h;simp at h
  ·rw [if_neg h1] at h ⊢;by_cases h2:(Rf.mth s (Rf.rep (Rf.mth s) k i).2).2 < 0
   ·rw [if_pos h2] at h;simp at h
   ·rw [if_neg h2] at h ⊢;simp only at h ⊢;obtain ⟨g1,g2,g3⟩:=T2 s (Rf.rep (Rf.mth s) k i).2 (by omega) h;rw [← g3];exact Qz (ih (by omega)) g1 g2
theorem Yh (s:List UInt8) (i:Int) (_hi:0≤i) (h:0≤(Rf.cls s i).2):i≤(Rf.cls s i).2:=by
 unfold Rf.cls at h ⊢;by_cases h1:Rf.cnt s (i+1) 0 4 < 0
 ·rw [if_pos h1] at h;simp at h
 ·rw [if_neg h1];simp only;omega
theorem Mf (s:List UInt8) (h:(Rf.fil s).2.2=(s.length:Int)):∃ i,0≤i∧Rf.chain (s.length:Int) i (Rf.fil s).2.1:=by
 unfold Rf.fil at h ⊢;have n1:¬ (-1:Int)=(s.length:Int):=by omega
 by_cases h1:Rf.at' s 0 ≠ 83
 ·rw [if_pos h1] at h;exact absurd h n1
 ·rw [if_neg h1] at h ⊢;by_cases h2:Rf.at' s 1 ≠ 77
  ·rw [if_pos h2] at h;exact absurd h n1
  ·rw [if_neg h2] at h ⊢;by_cases h3:Rf.cnt s 2 0 6 < 0
   ·rw [if_pos h3] at h;exact absurd h n1
   ·rw [if_neg h3] at h ⊢;dsimp only at h ⊢;by_cases h4:(Rf.rep (Rf.cls s) (Rf.cnt s 2 0 6).toNat 3).2 < 0
    ·rw [if_pos h4] at h;exact absurd h n1
    ·rw [if_neg h4] at h ⊢;by_cases h5:Rf.cnt s (Rf.rep (Rf.cls s) (Rf.cnt s 2 0 6).toNat 3).2 1 6 < 0
     ·rw [if_pos h5] at h;exact absurd h n1
     ·rw [if_neg h5] at h ⊢;by_cases h6:(Rf.rep (Rf.mth s) (Rf.cnt s (Rf.rep (Rf.cls s) (Rf.cnt s 2 0 6).toNat 3).2 1 6).toNat ((Rf.rep (Rf.cls s) (Rf.cnt s 2 0 6).toNat 3).2+1)).2 < 0
      ·rw [if_pos h6] at h;exact absurd h n1
      ·rw [if_neg h6] at h ⊢;simp only at h ⊢;refine ⟨(Rf.rep (Rf.cls s) (Rf.cnt s 2 0 6).toNat 3).2+1,by omega,?_⟩;rw [← h];exact Tz s _ _ (by omega) (by omega)
def Rf.strip (s:ByteArray):ByteArray→Int→List Rf.Mth→ByteArray
 | out,i,[]=>out ++ s.extract i.toNat s.size
 | out,i,x :: r=>Rf.strip s ((out ++ s.extract i.toNat x.mapsAt.toNat) ++ ⟨#[0]⟩) x.fin r
def Rf.stripD (s:ByteArray):ByteArray:=if (Rf.formed s.data.toList).1 ≠ 0 then ⟨#[]⟩ else Rf.strip s ⟨#[]⟩ 0 (Rf.fil s.data.toList).2.1
theorem Hs (s:List UInt8) (h:(Rf.formed s).1=0):(Rf.fil s).2.2=(s.length:Int)∧s.length≤15000:=by
 unfold Rf.formed at h;by_cases h0:(Rf.classed s).1 ≠ 0
 ·rw [if_pos h0] at h;exact absurd h h0
 ·have h0':(Rf.classed s).1=0:=by simpa using h0
  unfold Rf.classed at h0';by_cases h1:15000 < s.length
  ·rw [if_pos h1] at h0';simp at h0'
  ·rw [if_neg h1] at h0';by_cases h2:(Rf.fil s).2.2 ≠ (s.length:Int)
   ·rw [if_pos h2] at h0';simp at h0'
   ·exact ⟨by simpa using h2,by omega⟩
structure Cd.Ins where
 place:Int
 op:Int
 n:Int
def Cd.insAt (c:List Int) (p:Nat):Cd.Ins:=⟨(p:Int),c.getD p 0,if Cd.wd (c.getD p 0)=2 then c.getD (p+1) 0 else 0⟩
def Bu (l:List Cd.Ins):List Value:=l.flatMap fun x=>[.int .i64 x.place,.int .i64 x.op,.int .i64 x.n]
theorem O2 (l:List Cd.Ins) (x:Cd.Ins):Bu (l ++ [x])=Bu l ++ [.int .i64 x.place,.int .i64 x.op,.int .i64 x.n]:=by simp [Bu]
def InsAt (w:World) (b:Nat) (v:Value) (l:List Cd.Ins):Prop:=w.ownsRow b 204 3 v l.length (Bu l)
theorem InsAt.kp {e:Option TypeId}{b:Nat}{v:Value}{l:List Cd.Ins}{w w':World} (h:InsAt w b v l) (hk:Kp e b w w') (hne:some 204 ≠ e):InsAt w' b v l:=As h hk hne
theorem Tryz.infoIns:(Tryz.prog.info? 204).map (fun i=>(i.zero,i.size,i.bytes))=some (some (.agg #[.int .i64 0,.int .i64 0,.int .i64 0]),3,24):=by kernel_rfl
theorem Gf (l:List Cd.Ins) (k:Nat) (h:k < l.length):(Bu l)[k * 3]?=some (.int .i64 l[k].place)∧(Bu l)[k * 3+1]?=some (.int .i64 l[k].op)∧(Bu l)[k * 3+2]?=some (.int .i64 l[k].n)∧k * 3+2 < (Bu l).length:=by
 induction l generalizing k with
 | nil=>simp at h
 | cons x r ih =>
  have e:Bu (x :: r)=.int .i64 x.place :: .int .i64 x.op :: .int .i64 x.n :: Bu r:=by simp [Bu]
  cases k with
  | zero=>rw [e];simp
  | succ j =>
   obtain ⟨p,q,z,y⟩:=ih j (by simpa using h);rw [e,show (j+1) * 3=j * 3+1+1+1 by omega];refine ⟨by simpa using p,by simpa using q,by simpa using z,by simp;omega⟩
theorem On (op:Int) (w:World):Calls Tryz.prog 166 #[.int .i64 op] w fun e w'=>e=.returned (.bool (Cd.wd op == 2))∧w'=w:=by
 unfold Cd.wd;by_cases h:op=0∨op=2∨op=3∨(11≤op∧op≤21)
 ·rw [if_pos h];have h':op=0∨op=2∨op=3∨op=11∨op=12∨op=13∨op=14∨op=15∨op=16∨op=17∨op=18∨op=19∨op=20∨op=21:=by omega
  clear h;rcases h' with rfl | rfl | rfl | rfl | rfl | rfl | rfl | rfl | rfl | rfl | rfl | rfl | rfl | rfl
  all_goals
   go_enter Tryz.func166,Tryz.ntmps166;go_wp2;go_ret;exact ⟨rfl,rfl⟩
 ·rw [if_neg h];have n0:(op == 0)=false:=by simp;omega
  have n2:(op == 2)=false:=by simp;omega
  have n3:(op == 3)=false:=by simp;omega
  have n11:(op == 11)=false:=by simp;omega
  have n12:(op == 12)=false:=by simp;omega
  have n13:(op == 13)=false:=by simp;omega
  have n14:(op == 14)=false:=by simp;omega
  have n15:(op == 15)=false:=by simp;omega
  have n16:(op == 16)=false:=by simp;omega
  have n17:(op == 17)=false:=by simp;omega
  have n18:(op == 18)=false:=by simp;omega
  have n19:(op == 19)=false:=by simp;omega
  have n20:(op == 20)=false:=by simp;omega
  have n21:(op == 21)=false:=by simp;omega
  clear h;go_enter Tryz.func166,Tryz.ntmps166;go_wp2;go_ret;exact ⟨rfl,rfl⟩
theorem Ij (p:Nat) (op n:Int) (w:World) (hp:p≤100000):Calls Tryz.prog 122 #[.agg #[.int .i64 (p:Int),.int .i64 op,.int .i64 n]] w fun e w'=>e=.returned (.int .i64 ((p+Cd.wd op:Nat):Int))∧Below w.heap.size w w':=by
 have hh:=fun w=>On op w;rcases (show Cd.wd op=1∨Cd.wd op=2 by have:=Cd.wd_bd op;omega) with h | h
 all_goals
  rw [h] at hh ⊢;have HH:=Ac hh;clear hh h;go_enter Tryz.func122,Tryz.ntmps122;go_wp2_with fail
  refine (Aa HH _).mono ?_;rintro e w1 ⟨rfl,rfl⟩;go_wp2;go_ret;exact ⟨by simp,(Below.refl _ _).alloc (Nat.le_refl _) _⟩
def Cd.findAt (place:Int):List Cd.Ins→Option Cd.Ins
 | []=>none
 | x :: r=>if x.place=place then some x else Cd.findAt place r
def Cd.orZero:Option Cd.Ins→Cd.Ins
 | some x=>x
 | none=>⟨0,0,0⟩
theorem Lb (l:List Cd.Ins) (a:Option Addr) (cap bb:Nat) (place:Int) (w:World) (hl:l.length≤100000) (hi:InsAt w bb (.slice a l.length cap) l) :
  Calls Tryz.prog 236 #[.slice a l.length cap,.int .i64 place] w fun e w' =>
   e=.returned (.tuple #[.agg #[.int .i64 (Cd.orZero (Cd.findAt place l)).place,.int .i64 (Cd.orZero (Cd.findAt place l)).op,.int .i64 (Cd.orZero (Cd.findAt place l)).n],.bool (Cd.findAt place l).isSome])∧Below w.heap.size w w':=by
 generalize hr:Cd.findAt place l=r;have HR:Hid (Cd.findAt place (l.drop 0)=r):=hr;clear hr;have hB0:Below w.heap.size w (w.alloc (.cells #[.int .i64 0,.int .i64 0,.int .i64 0] 204)):=(Below.refl _ _).alloc (Nat.le_refl _) _;have CR0:=Ad w (.cells #[.int .i64 0,.int .i64 0,.int .i64 0] 204);go_enter Tryz.func236,Tryz.ntmps236;go_wp2
 go_loopw [10] (fun v wr=>∃ k:Nat,k≤l.length∧v=.int .i64 (k:Int)∧Hid (Cd.findAt place (l.drop k)=r)∧Below w.heap.size w wr∧wr.heap[w.heap.size]?=some (.cells #[.int .i64 0,.int .i64 0,.int .i64 0] 204 (0,0)))
  (fun v _=>l.length - (intOf v).toNat)
 case atStart=>exact ⟨0,by omega,rfl,HR,hB0,CR0⟩
 case round =>
  clear hB0 CR0 HR;obtain ⟨k,hk,rfl,HR,hB,CR⟩:=hrel;have hBs:=hB.size;by_cases hkn:k < l.length
  ·obtain ⟨g,hg,hglt,_,hcell⟩:=Ao (hi.kp (Kp.of_below (e:=none) hB) (by decide)) (by omega);obtain ⟨t1,t2,t3,t4⟩:=Gf l k hkn;have u0:=(hcell (k * 3) (by omega)).trans t1;have u1:=(hcell (k * 3+1) (by omega)).trans t2;have u2:=(hcell (k * 3+2) (by omega)).trans t3;have hd:l.drop k=l[k] :: l.drop (k+1):=List.drop_eq_getElem_cons hkn;have hr:=Aa HR;rw [hd,Cd.findAt] at hr;generalize l[k]=x at *;obtain ⟨xp,xo,xn⟩:=x;simp only at u0 u1 u2 hr;have kb:(k:Int) < (l.length:Int):=by omega
   have CX:=Ad wr (.cells #[.int .i64 xp,.int .i64 xo,.int .i64 xn] 204);have CR1:=Ae CR (.cells #[.int .i64 xp,.int .i64 xo,.int .i64 xn] 204);have hB1:=hB.alloc hBs (.cells #[.int .i64 xp,.int .i64 xo,.int .i64 xn] 204);have HRR:=Ac hr;clear hd hr HR hcell t1 t2 t3 t4;subst hg;by_cases hx:xp=place
   ·have hx':(xp == place)=true:=by simp [hx]
    have HF:Hid (r=some ⟨xp,xo,xn⟩):=by unfold Hid;rw [← Aa HRR,if_pos hx]
    obtain ⟨r0,r1,r2⟩:=cl3 CR;obtain ⟨q0,q1,q2⟩:=fr3 CR;have lr:=lt_of_block CR;simp at r0 r1 r2;clear hx HRR;go_wp2_with fail
    refine bodyPost_ret (v:=.tuple #[.agg #[.int .i64 xp,.int .i64 xo,.int .i64 xn],.bool true]) (by simp [results,Tryz.results236,go_sem,r0,r1,r2,lr]) rfl ?_;rw [Aa HF];exact ⟨rfl,by repeat (first | refine Below.setCell ?_ (by simp) _ | refine Below.alloc ?_ (by first | omega | (simp;omega)) _ | exact hB)⟩
   ·have hx':(xp == place)=false:=by simp [hx]
    have HF:Hid (Cd.findAt place (l.drop (k+1))=r):=by unfold Hid;rw [← Aa HRR,if_neg hx]
    clear hx HRR;go_wp2
    go_roundw
    case rel=>exact ⟨k+1,by omega,by go_num,HF,hB1,CR1⟩
    case measure=>simp [intOf];omega
  ·have hrn:r=none:=by rw [← Aa HR,List.drop_eq_nil_of_le (by omega)];rfl
   have HF:=Ac hrn;obtain ⟨r0,r1,r2⟩:=cl3 CR;obtain ⟨q0,q1,q2⟩:=fr3 CR;have kb:¬ (k:Int) < (l.length:Int):=by omega
   simp at r0 r1 r2;clear hrn HR;go_wp2_with fail
   refine bodyPost_ret (v:=.tuple #[.agg #[.int .i64 0,.int .i64 0,.int .i64 0],.bool false]) (by simp [results,Tryz.results236,go_sem,r0,r1,r2]) rfl ?_;rw [Aa HF];exact ⟨rfl,((hB.setCell (by simp) _).setCell (by simp) _).setCell (by simp) _⟩
theorem Gj (l:List Cd.Ins) (a:Option Addr) (cap bb:Nat) (place:Int) (w:World) (hl:l.length≤100000) (hi:InsAt w bb (.slice a l.length cap) l) :
  Calls Tryz.prog 191 #[.slice a l.length cap,.int .i64 place] w fun e w'=>e=.returned (.bool (Cd.findAt place l).isSome)∧Below w.heap.size w w':=by
 have hat:=Lb l a cap bb place w hl hi;generalize Cd.findAt place l=r at *;have HAT:=Ac hat;clear hat;go_enter Tryz.func191,Tryz.ntmps191;go_wp2_with fail
 refine (Aa HAT).mono ?_;rintro e w1 ⟨rfl,hb1⟩;go_wp2;go_ret;exact ⟨rfl,hb1.alloc hb1.size _⟩
theorem Qg (l:List Cd.Ins) (a:Option Addr) (cap bb:Nat) (place:Int) (w:World) (hl:l.length≤100000) (hi:InsAt w bb (.slice a l.length cap) l) :
  Calls Tryz.prog 278 #[.slice a l.length cap,.int .i64 place] w fun e w'=>e=.returned (.bool ((Cd.findAt place l).isSome && ((Cd.orZero (Cd.findAt place l)).op == 15)))∧Below w.heap.size w w':=by
 have hat:=Lb l a cap bb place w hl hi;generalize Cd.findAt place l=r at *;have HAT:=Ac hat;clear hat;cases r with
 | none =>
  go_enter Tryz.func278,Tryz.ntmps278;go_wp2_with fail
  refine (Aa HAT).mono ?_;rintro e w1 ⟨rfl,hb1⟩;go_wp2;go_ret;exact ⟨rfl,hb1.alloc hb1.size _⟩
 | some x =>
  go_enter Tryz.func278,Tryz.ntmps278;go_wp2_with fail
  refine (Aa HAT).mono ?_;rintro e w1 ⟨rfl,hb1⟩;go_wp2;go_ret;exact ⟨rfl,hb1.alloc hb1.size _⟩
def Cd.insts (c:List Int):List Cd.Ins:=(Cd.places c).map (Cd.insAt c)
def Cd.readL (c:List Int):List Cd.Ins:=if 0≤Cd.unread c then [] else Cd.insts c
def Cd.readP (c:List Int):Int:=if 0≤Cd.unread c then Cd.unread c else 0
def Cd.readB (c:List Int):Bool:=decide (Cd.unread c < 0)
def Cd.one (c:List Int) (p:Nat):Option Cd.Ins:=if p < c.length∧c.getD p 0≤25∧p+Cd.wd (c.getD p 0)≤c.length then some (Cd.insAt c p) else none
theorem O4:Cd.orZero none=⟨0,0,0⟩:=rfl
theorem Vs (c:List Int) (a:Option Addr) (cap bb p:Nat) (w:World) (hl:c.length≤1000) (hp:p≤100000) (h0:∀ x∈c,0≤x) (hi:IntsAt w bb (.slice a c.length cap) c) :
  Calls Tryz.prog 121 #[.slice a c.length cap,.int .i64 (p:Int)] w fun e w' =>
   e=.returned (.tuple #[.agg #[.int .i64 (Cd.orZero (Cd.one c p)).place,.int .i64 (Cd.orZero (Cd.one c p)).op,.int .i64 (Cd.orZero (Cd.one c p)).n],.bool (Cd.one c p).isSome])∧Below w.heap.size w w':=by
 generalize hr:Cd.one c p=r;unfold Cd.one at hr;have kp0:¬ (p:Int) < 0:=by omega
 by_cases hpn:p < c.length
 ·obtain ⟨g,hg,hglt,_,hcell⟩:=Ao hi (by omega);have y0:w.cell? ⟨g,p,none⟩=some (.int .i64 (c.getD p 0)):=by
   rw [hcell p (by simpa using hpn),List.getElem?_map,List.getD_eq_getElem?_getD,List.getElem?_eq_getElem hpn];rfl
  have hop0:0≤c.getD p 0:=by
   rw [List.getD_eq_getElem?_getD,List.getElem?_eq_getElem hpn];exact h0 _ (List.getElem_mem hpn)
  have y1:p+1 < c.length→w.cell? ⟨g,p+1,none⟩=some (.int .i64 (c.getD (p+1) 0)):=by
   intro h;rw [hcell (p+1) (by simpa using h),List.getElem?_map,List.getD_eq_getElem?_getD,List.getElem?_eq_getElem h];rfl
  have hins:Cd.insAt c p=⟨(p:Int),c.getD p 0,if Cd.wd (c.getD p 0)=2 then c.getD (p+1) 0 else 0⟩:=rfl
  have hwd:=Cd.wd_bd (c.getD p 0);have kb:(p:Int) < (c.length:Int):=by omega
  have h1:¬ c.getD p 0 < 0:=by omega
  by_cases h25:25 < c.getD p 0
  ·have HF:Hid (r=none):=by unfold Hid;rw [← hr,if_neg (by omega)]
   generalize c.getD p 0=op at *;clear hr hins hcell y1 hop0 h0 hi;subst hg;go_enter Tryz.func121,Tryz.ntmps121;go_wp2;refine bodyPost_ret (v:=.tuple #[.agg #[.int .i64 0,.int .i64 0,.int .i64 0],.bool false]) (by simp [results,Tryz.results121,go_sem]) rfl ?_;rw [Aa HF];exact ⟨rfl,by first | exact Ah _ _ _ | exact (Below.refl _ _).alloc (Nat.le_refl _) _⟩
  ·have hhn:=fun w=>On (c.getD p 0) w;rcases (show Cd.wd (c.getD p 0)=1∨Cd.wd (c.getD p 0)=2 by omega) with hw | hw
   ·have HF:Hid (r=some ⟨(p:Int),c.getD p 0,0⟩):=by
     unfold Hid;rw [← hr,if_pos (by omega),hins,hw];rfl
    rw [hw] at hhn;generalize c.getD p 0=op at *;have HHN:=Ac hhn;clear hr hins hcell y1 hop0 h0 hi hhn hw hwd;subst hg;go_enter Tryz.func121,Tryz.ntmps121;go_wp2_with fail
    refine (Aa HHN _).mono ?_;rintro e w1 ⟨rfl,rfl⟩;go_wp2;refine bodyPost_ret (v:=.tuple #[.agg #[.int .i64 (p:Int),.int .i64 op,.int .i64 0],.bool true]) (by simp [results,Tryz.results121,go_sem]) rfl ?_;rw [Aa HF];exact ⟨rfl,by first | exact Ah _ _ _ | exact (Below.refl _ _).alloc (Nat.le_refl _) _⟩
   ·by_cases hp1:p+1 < c.length
    ·have HF:Hid (r=some ⟨(p:Int),c.getD p 0,c.getD (p+1) 0⟩):=by
      unfold Hid;rw [← hr,if_pos (by omega),hins,hw];rfl
     have y2:=y1 hp1;have kb2:(p:Int)+1 < (c.length:Int):=by omega
     rw [hw] at hhn;generalize c.getD (p+1) 0=nn at *;generalize c.getD p 0=op at *;have HHN:=Ac hhn;clear hr hins hcell y1 hop0 h0 hi hhn hw hwd;subst hg;go_enter Tryz.func121,Tryz.ntmps121;go_wp2_with fail
     refine (Aa HHN _).mono ?_;rintro e w1 ⟨rfl,rfl⟩;go_wp2;refine bodyPost_ret (v:=.tuple #[.agg #[.int .i64 (p:Int),.int .i64 op,.int .i64 nn],.bool true]) (by simp [results,Tryz.results121,go_sem]) rfl ?_;rw [Aa HF];exact ⟨rfl,by first | exact Ah _ _ _ | exact (Below.refl _ _).alloc (Nat.le_refl _) _⟩
    ·have HF:Hid (r=none):=by unfold Hid;rw [← hr,if_neg (by omega)]
     have kb2:¬ (p:Int)+1 < (c.length:Int):=by omega
     rw [hw] at hhn;generalize c.getD p 0=op at *;have HHN:=Ac hhn;clear hr hins hcell y1 hop0 h0 hi hhn hw hwd;subst hg;go_enter Tryz.func121,Tryz.ntmps121;go_wp2_with fail
     refine (Aa HHN _).mono ?_;rintro e w1 ⟨rfl,rfl⟩;go_wp2;refine bodyPost_ret (v:=.tuple #[.agg #[.int .i64 0,.int .i64 0,.int .i64 0],.bool false]) (by simp [results,Tryz.results121,go_sem]) rfl ?_;rw [Aa HF];exact ⟨rfl,by first | exact Ah _ _ _ | exact (Below.refl _ _).alloc (Nat.le_refl _) _⟩
 ·have HF:Hid (r=none):=by unfold Hid;rw [← hr,if_neg (by omega)]
  have kb:¬ (p:Int) < (c.length:Int):=by omega
  clear hr h0 hi;go_enter Tryz.func121,Tryz.ntmps121;go_wp2;refine bodyPost_ret (v:=.tuple #[.agg #[.int .i64 0,.int .i64 0,.int .i64 0],.bool false]) (by simp [results,Tryz.results121,go_sem]) rfl ?_;rw [Aa HF];exact ⟨rfl,by first | exact Ah _ _ _ | exact (Below.refl _ _).alloc (Nat.le_refl _) _⟩
theorem Ib (c:List Int) (a:Option Addr) (cap bb:Nat) (w:World) (hl:c.length≤1000) (h0:∀ x∈c,0≤x) (hi:IntsAt w bb (.slice a c.length cap) c) :
  Calls Tryz.prog 76 #[.slice a c.length cap] w fun e w' =>
   ∃ va vc,e=.returned (.tuple #[.slice va (Cd.readL c).length vc,.int .i64 (Cd.readP c),.bool (Cd.readB c)])∧InsAt w' w.heap.size (.slice va (Cd.readL c).length vc) (Cd.readL c)∧Below w.heap.size w w':=by
 obtain ⟨i0,hif,hz0,hz1,hz2⟩:=info_parts Tryz.infoIns;have hun:Cd.unread c=Cd.first (Cd.noRead c) (Cd.starts c c.length 0):=rfl
 generalize hU:Cd.unread c=U at hun;have hL:Cd.readL c=if 0≤U then [] else Cd.insts c:=by unfold Cd.readL;rw [hU]
 have hP:Cd.readP c=if 0≤U then U else 0:=by unfold Cd.readP;rw [hU]
 have hBo:Cd.readB c=decide (U < 0):=by unfold Cd.readB;rw [hU]
 generalize Cd.readL c=L at *;generalize Cd.readP c=P at *;generalize Cd.readB c=B at *;have HL:=Ac hL;have HP:=Ac hP;have HBo:=Ac hBo;have HU:Hid (Cd.first (Cd.noRead c) (Cd.starts c c.length 0)=U):=hun.symm
 have HD:Hid (([]:List Nat) ++ Cd.starts c c.length 0=Cd.places c):=rfl;have H0:=Ac h0;clear hL hP hBo hU hun h0;go_enter Tryz.func76,Tryz.ntmps76;go_wp2
 go_loopw [5,6] (fun u v wr=>∃ (p k:Nat) (done:List Nat),v=.int .i64 (p:Int)∧c.length≤p+k∧p≤2000∧done.length≤p∧wr.ownsRow w.heap.size 204 3 u done.length (Bu (done.map (Cd.insAt c))) ∧
   Hid (done ++ Cd.starts c k p=Cd.places c)∧Hid (Cd.first (Cd.noRead c) (Cd.starts c k p)=U)∧Below w.heap.size w wr)
  (fun _ v _=>c.length - (intOf v).toNat)
 case atStart=>exact ⟨0,c.length,[],rfl,by omega,by omega,by simp,World.ownsRow_nil _ _ _ _,HD,HU,Below.refl _ _⟩
 case round =>
  clear HU HD;obtain ⟨p,k,done,rfl,hk,hp2,hdl,hown,HD,HU,hB⟩:=hrel;obtain ⟨ua,uc,rfl⟩:=Af hown;have hBs:=hB.size;by_cases hpn:p < c.length
  ·obtain ⟨j,rfl,hj,hst⟩:=Cd.starts_go (c:=c) (k:=k) (p:=p) hpn hk;have hu:=Aa HU;have hd:=Aa HD;rw [hst] at hu hd;rw [Cd.first] at hu
   have hwd:=Cd.wd_bd (c.getD p 0);have hone:=fun w' (hb:Below w.heap.size w w')=>Vs c a cap bb p w' hl (by omega) (Aa H0) (hi.kp (Kp.of_below (e:=none) hb) (by decide));have hnr:Cd.noRead c p=(decide (25 < c.getD p 0) || decide (c.length < p+Cd.wd (c.getD p 0))):=rfl;have kb:(p:Int) < (c.length:Int):=by omega
   by_cases hok:c.getD p 0≤25∧p+Cd.wd (c.getD p 0)≤c.length
   ·have h1:Cd.one c p=some (Cd.insAt c p):=by unfold Cd.one;rw [if_pos ⟨hpn,hok⟩]
    have hnx:=fun n w=>Ij p (c.getD p 0) n w (by omega);have HUJ:Hid (Cd.first (Cd.noRead c) (Cd.starts c j (p+Cd.wd (c.getD p 0)))=U):=by
     unfold Hid;rw [← hu,hnr,decide_eq_false (show ¬ 25 < c.getD p 0 by omega),decide_eq_false (show ¬ c.length < p+Cd.wd (c.getD p 0) by omega)];rw [if_neg (by decide)]
    have HDJ:Hid ((done ++ [p]) ++ Cd.starts c j (p+Cd.wd (c.getD p 0))=Cd.places c):=by unfold Hid;rw [← hd];simp
    have HINS:Hid (Bu ((done ++ [p]).map (Cd.insAt c))=Bu (done.map (Cd.insAt c)) ++ [.int .i64 (Cd.insAt c p).place,.int .i64 (Cd.insAt c p).op,.int .i64 (Cd.insAt c p).n]):=by
     unfold Hid;rw [List.map_append,List.map_singleton,O2]
    have e1:(Cd.insAt c p).place=(p:Int):=rfl;have e2:(Cd.insAt c p).op=c.getD p 0:=rfl;rw [h1] at hone;simp only [Cd.orZero,Option.isSome_some] at hone;rw [e1,e2] at hone;unfold Hid at HINS;rw [e1,e2] at HINS;have HINS:=Ac HINS;generalize (Cd.insAt c p).n=nn at *;generalize Cd.wd (c.getD p 0)=wdp at *;generalize c.getD p 0=op at *;have HON:=Ac hone;have HNX:=Ac hnx;clear hone hnx hu hd hnr hst HU HD e1 e2 h1;go_wp2_with fail
    refine (Aa HON _ hB).mono ?_;rintro e w1 ⟨rfl,hb1⟩;have hB1:=hB.trans (hb1.mono hBs);have hown1:=As hown (Kp.of_below (e:=none) hb1) (by decide);have hs1:=hB1.size;clear hb1 hown;go_wp2_with (at_builtin;refine wpList_append_own _ rfl _ _ 141 rfl w.heap.size 204 i0 _ 3 24 Tryz.underlying141 hif hz0 hz1 hz2 rfl (by decide) _ _ _ rfl ((hown1.alloc _).alloc _) ⟨w1.heap.size+1,0,none⟩ 1 1 [.int .i64 (p:Int),.int .i64 op,.int .i64 nn] rfl rfl ?c1 ?c2 ?c3 ?c4 ?c5 ?_)
    case c1=>exact Aw _ _ _ _ (by simp)
    case c2=>intro u hu;simp at hu;rcases hu with rfl | rfl | rfl <;> rfl
    case c3=>unfold maxLen;omega
    case c4=>omega
    case c5=>simp;omega
    intro v' w2 hown2 hgrow _;have hX:w2.heap[w1.heap.size]?=some (.cells #[.int .i64 (p:Int),.int .i64 op,.int .i64 nn] 204 (0,0)):=by
     rw [hgrow.block w1.heap.size (by simp;omega) (fun h=>by have:=(hown1.lt _ h.symm).2;omega),Below.heap_alloc _ _ _ (by simp)];exact Ad w1 _
    have hown3:w2.ownsRow w.heap.size 204 3 v' (done ++ [p]).length (Bu ((done ++ [p]).map (Cd.insAt c))):=by
     rw [Aa HINS,List.length_append];exact hown2
    have hB2:=((hB1.alloc hs1 _).alloc (by simp;omega) _).grown hgrow (by simp;omega) (fun j hj=>(hown1.lt j hj).1);obtain ⟨x0,x1,x2⟩:=cl3 hX;simp at x0 x1 x2;clear hgrow hown1 hown2 hB1 hB hX HINS;go_wp2_with fail
    refine (Aa HNX nn _).mono ?_;rintro e w3 ⟨rfl,hb3⟩;have hB3:=Bon hB2 hb3;have hown4:=As hown3 (Kp.of_below (e:=none) hb3) (by decide);clear hb3 hB2 hown3 x0 x1 x2;go_wp2
    go_roundw
    case rel=>exact ⟨p+wdp,j,done ++ [p],rfl,by omega,by omega,by simp;omega,hown4,HDJ,HUJ,hB3⟩
    case measure=>simp [intOf];omega
   ·have h1:Cd.one c p=none:=by unfold Cd.one;rw [if_neg (fun h=>hok h.2)]
    have HF:Hid (U=(p:Int)):=by
     unfold Hid;rw [← hu,hnr];by_cases h25:25 < c.getD p 0
     ·rw [decide_eq_true h25,Bool.true_or,if_pos rfl]
     ·rw [decide_eq_true (show c.length < p+Cd.wd (c.getD p 0) by omega),Bool.or_true,if_pos rfl]
    rw [h1] at hone;simp only [O4,Option.isSome_none] at hone;have HON:=Ac hone;clear hone hu hd hnr hst HU HD h1;go_wp2_with fail
    refine (Aa HON _ hB).mono ?_;rintro e w1 ⟨rfl,hb1⟩;have hB1:=hB.trans (hb1.mono hBs);have hs1:=hB1.size;clear hb1;go_wp2;refine bodyPost_ret (v:=.tuple #[.slice none 0 0,.int .i64 (p:Int),.bool false]) (by simp [results,Tryz.results76,go_sem]) rfl ?_;have hp0:(0:Int)≤(p:Int):=by omega
    rw [Aa HL,Aa HP,Aa HBo,Aa HF,if_pos hp0,if_pos hp0];exact ⟨none,0,by simp,World.ownsRow_nil _ _ _ _,by repeat (first | refine Below.drew ?_ | refine Below.alloc ?_ (by first | omega | (simp;omega)) _ | exact hB1)⟩
  ·have hu:=Aa HU;have hd:=Aa HD;rw [Cd.starts_end (by omega)] at hu hd;have hU1:U = -1:=by rw [← hu];rfl
   rw [List.append_nil] at hd;have HU1:=Ac hU1;have HD1:=Ac hd;have kb:¬ (p:Int) < (c.length:Int):=by omega
   clear hu hd hU1 HU HD;go_wp2;refine bodyPost_ret (v:=.tuple #[.slice ua done.length uc,.int .i64 0,.bool true]) (by simp [results,Tryz.results76,go_sem]) rfl ?_;have hn1:¬ (0:Int)≤-1:=by omega
   rw [Aa HL,Aa HP,Aa HBo,Aa HU1,if_neg hn1,if_neg hn1];unfold Cd.insts;rw [← Aa HD1];exact ⟨ua,uc,by simp,by unfold InsAt;simpa using hown,hB⟩
end Go.Proofs.YtcefiamkoincoaaGreat
namespace Go.Proofs.YtcefiamkoincoaaGreat.Cd
theorem Mh (c:List Int) (place:Int) (ps:List Nat):(findAt place (ps.map (insAt c))).isSome=ps.any fun p=>(p:Int) == place:=by
 induction ps with
 | nil=>rfl
 | cons p r ih =>
  rw [List.map_cons,findAt,List.any_cons];by_cases h:(insAt c p).place=place
  ·rw [if_pos h];have:((p:Int) == place)=true:=by simpa [insAt] using h
   rw [this];rfl
  ·rw [if_neg h,ih];have:((p:Int) == place)=false:=by simpa [insAt] using h
   rw [this];rfl
theorem find_beg (c:List Int) (place:Int):(findAt place (insts c)).isSome=begB c place:=Mh c place (places c)
theorem find_at (c:List Int) (place:Int) (ps:List Nat) (h:(findAt place (ps.map (insAt c))).isSome=true):(orZero (findAt place (ps.map (insAt c))))=insAt c place.toNat∧0≤place:=by
 induction ps with
 | nil=>simp [findAt] at h
 | cons p r ih =>
  rw [List.map_cons,findAt] at h ⊢;by_cases hp:(insAt c p).place=place
  ·rw [if_pos hp];have:(p:Int)=place:=hp;subst this;exact ⟨by simp [orZero],by omega⟩
  ·rw [if_neg hp] at h ⊢;exact ih h
theorem Vp (c:List Int) (place:Int):((findAt place (insts c)).isSome && ((orZero (findAt place (insts c))).op == 15))=(begB c place && (c.getD place.toNat 0 == 15)):=by
 rw [find_beg];cases h:begB c place with
 | false=>rfl
 | true =>
  have:=(find_at c place (places c) (by rw [Mh];exact h)).1;unfold insts;rw [this];rfl
end Go.Proofs.YtcefiamkoincoaaGreat.Cd
namespace Go.Proofs.YtcefiamkoincoaaGreat
open Go.RowKit
structure PBd where
 fa1:Option Addr
 fl1:Nat
 fc1:Nat
 fa2:Option Addr
 fl2:Nat
 fc2:Nat
 tg:Nat
 tc:Nat
 ya:Option Addr
 yn:Nat
 yc:Nat
 cl:Int
 nm:Int
 pa:Option Addr
 pl:Nat
 pc:Nat
 r1:Int
 r2:Int
 lo:Int
 st:Int
 ca:Option Addr
 cn:Nat
 cc:Nat
 ha:Option Addr
 hl:Nat
 hc:Nat
 ma:Option Addr
 ml:Nat
 mc:Nat
 la:Option Addr
 lc:Nat
 T:List Int
 L:List Cd.Ins
def PBd.val (b:PBd):Value:=.agg #[.slice b.fa1 b.fl1 b.fc1,.slice b.fa2 b.fl2 b.fc2,.slice (some ⟨b.tg,0,none⟩) b.T.length b.tc,.slice b.ya b.yn b.yc,.int .i64 b.cl,.int .i64 b.nm,.slice b.pa b.pl b.pc,.int .i64 b.r1,.int .i64 b.r2,.int .i64 b.lo,.int .i64 b.st,.slice b.ca b.cn b.cc,.slice b.ha b.hl b.hc,.slice b.ma b.ml b.mc,.slice b.la b.L.length b.lc]
def PBd.ok (b:PBd) (w:World) (bb:Nat):Prop:=b.T.length≤1000∧b.L.length≤100000∧TreeIn w b.tg b.T∧InsAt w bb (.slice b.la b.L.length b.lc) b.L
theorem PBd.ok.below {b:PBd}{w w':World}{bb:Nat} (h:b.ok w bb) (hb:Below w.heap.size w w'):b.ok w' bb :=
 ⟨h.1,h.2.1,h.2.2.1.below hb,h.2.2.2.kp (Kp.of_below (e:=none) hb) (by decide)⟩
def Cd.mapTy (T:List Int) (L:List Cd.Ins) (k n:Int):Bool:=if k=4 then (Cd.findAt n L).isSome && ((Cd.orZero (Cd.findAt n L)).op == 15) else Tr.settledB T k n
theorem Tw (b:PBd) (bb:Nat) (k n:Int) (w:World) (hb:b.ok w bb) :
  Calls Tryz.prog 265 #[b.val,.agg #[.int .i64 k,.int .i64 n]] w fun e w'=>e=.returned (.bool (Cd.mapTy b.T b.L k n))∧Below w.heap.size w w':=by
 have hN:=fun w (h:b.ok w bb)=>Qg b.L b.la b.lc bb n w h.2.1 h.2.2.2;have hS:=fun w=>M4 (ya:=b.ya) (yn:=b.yn) (yc:=b.yc) b.T (some ⟨b.tg,0,none⟩) b.tc k n w;have HOK:∀ w',Below w.heap.size w w'→b.ok w' bb:=fun w' h=>hb.below h;generalize hR:Cd.mapTy b.T b.L k n=R;unfold Cd.mapTy at hR;obtain ⟨fa1,fl1,fc1,fa2,fl2,fc2,tg,tc,ya,yn,yc,cl,nm,pa,pl,pc,r1,r2,lo,st,ca,cn,cc,ha,hl,hc,ma,ml,mc,la,lc,T,L⟩:=b;simp only [PBd.val] at hN hS hR ⊢;have HN:=Ac hN;have HS:=Ac hS;have HO:=Ac HOK;clear hN hS HOK hb;by_cases h4:k=4
 ·rw [if_pos h4] at hR;subst h4;have HR:=Ac hR;clear hR;go_enter Tryz.func265,Tryz.ntmps265;go_wp2_with fail
  refine (Aa HN _ (Aa HO _ (Ah _ _ _))).mono ?_;rintro e w1 ⟨rfl,hb1⟩;go_wp2;go_ret;exact ⟨by rw [← Aa HR];rfl,(Ah _ _ _).trans (hb1.mono (by simp;omega))⟩
 ·rw [if_neg h4] at hR;have h4':(k == 4)=false:=by simp [h4]
  have HR:=Ac hR;clear hR h4;go_enter Tryz.func265,Tryz.ntmps265;go_wp2_with fail
  refine (Aa HS _).mono ?_;rintro e w1 ⟨rfl,hb1⟩;go_wp2;go_ret;exact ⟨by rw [← Aa HR];rfl,(Ah _ _ _).trans (hb1.mono (by simp;omega))⟩
def Cd.mapTys (T:List Int) (L:List Cd.Ins) (l:List (Int × Int)):Bool:=l.all fun t=>Cd.mapTy T L t.1 t.2
theorem Kc (b:PBd) (bb b2:Nat) (l:List (Int × Int)) (va:Option Addr) (vc:Nat) (w:World) (hb:b.ok w bb) (hl:l.length≤1000) (ht:TysAt w b2 (.slice va l.length vc) l) :
  Calls Tryz.prog 237 #[b.val,.slice va l.length vc] w fun e w'=>e=.returned (.bool (Cd.mapTys b.T b.L l))∧Below w.heap.size w w':=by
 have hM:=fun k n w (h:b.ok w bb)=>Tw b bb k n w h;have HOK:∀ w',Below w.heap.size w w'→b.ok w' bb:=fun w' h=>hb.below h;have HTY:∀ w',Below w.heap.size w w'→TysAt w' b2 (.slice va l.length vc) l:=fun w' h=>ht.kp (Kp.of_below (e:=none) h) (by decide);generalize hR:Cd.mapTys b.T b.L l=R;have HR:Hid (Cd.mapTys b.T b.L (l.drop 0)=R):=hR;clear hR;obtain ⟨fa1,fl1,fc1,fa2,fl2,fc2,tg,tc,ya,yn,yc,cl,nm,pa,pl,pc,r1,r2,lo,st,ca,cn,cc,ha,hl',hc,ma,ml,mc,la,lc,T,L⟩:=b;simp only [PBd.val] at hM HR ⊢;have HM:=Ac hM;have HO:=Ac HOK;have HT:=Ac HTY;clear hM HOK HTY hb ht;have hB0:Below w.heap.size w (w.alloc (.cells #[.slice fa1 fl1 fc1,.slice fa2 fl2 fc2,.slice (some ⟨tg,0,none⟩) T.length tc,.slice ya yn yc,.int .i64 cl,.int .i64 nm,.slice pa pl pc,.int .i64 r1,.int .i64 r2,.int .i64 lo,.int .i64 st,.slice ca cn cc,.slice ha hl' hc,.slice ma ml mc,.slice la L.length lc] 202)):=(Below.refl _ _).alloc (Nat.le_refl _) _;have C0:=Ad w (.cells #[.slice fa1 fl1 fc1,.slice fa2 fl2 fc2,.slice (some ⟨tg,0,none⟩) T.length tc,.slice ya yn yc,.int .i64 cl,.int .i64 nm,.slice pa pl pc,.int .i64 r1,.int .i64 r2,.int .i64 lo,.int .i64 st,.slice ca cn cc,.slice ha hl' hc,.slice ma ml mc,.slice la L.length lc] 202);go_enter Tryz.func237,Tryz.ntmps237;go_wp2
 go_loopw [9] (fun v wr=>∃ k:Nat,k≤l.length∧v=.int .i64 (k:Int)∧Hid (Cd.mapTys T L (l.drop k)=R)∧Below w.heap.size w wr ∧
   wr.heap[w.heap.size]?=some (.cells #[.slice fa1 fl1 fc1,.slice fa2 fl2 fc2,.slice (some ⟨tg,0,none⟩) T.length tc,.slice ya yn yc,.int .i64 cl,.int .i64 nm,.slice pa pl pc,.int .i64 r1,.int .i64 r2,.int .i64 lo,.int .i64 st,.slice ca cn cc,.slice ha hl' hc,.slice ma ml mc,.slice la L.length lc] 202 (0,0)))
  (fun v _=>l.length - (intOf v).toNat)
 case atStart=>exact ⟨0,by omega,rfl,HR,hB0,C0⟩
 case round =>
  clear hB0 C0 HR;obtain ⟨k,hk,rfl,HR,hB,CB⟩:=hrel;obtain ⟨m0,m1,m2,m3,m4,m5,m6,m7,m8,m9,m10,m11,m12,m13,m14⟩:=Fz CB;simp at m0 m1 m2 m3 m4 m5 m6 m7 m8 m9 m10 m11 m12 m13 m14;have hBs:=hB.size;have lB:=lt_of_block CB;by_cases hkn:k < l.length
  ·obtain ⟨g,hg,hglt,_,hcell⟩:=Ao (Aa HT _ hB) (by omega);obtain ⟨e1,e2,e3⟩:=Cm l k hkn;have u0:=(hcell (k * 2) (by omega)).trans e1;have u1:=(hcell (k * 2+1) (by omega)).trans e2;have hd:l.drop k=l[k] :: l.drop (k+1):=List.drop_eq_getElem_cons hkn;have hr:=Aa HR;unfold Cd.mapTys at hr;rw [hd,List.all_cons] at hr;generalize l[k]=t at *;obtain ⟨t1,t2⟩:=t;simp only at u0 u1 hr;have hm:=fun w h=>Aa HM t1 t2 w h;generalize Cd.mapTy T L t1 t2=Z at *;have HZ:=Ac hm;have HRR:=Ac hr;have kb:(k:Int) < (l.length:Int):=by omega
   have CB1:=Ae CB (.cells #[.int .i64 t1,.int .i64 t2] 39);have hB1:=hB.alloc hBs (.cells #[.int .i64 t1,.int .i64 t2] 39);clear hm hr hd hcell e1 e2 e3 HR;subst hg;go_wp2_with fail
   refine (Aa HZ _ (Aa HO _ hB1)).mono ?_;rintro e w2 ⟨rfl,hb2⟩;have hB2:=Bon hB1 hb2;have CB2:=stay hb2 CB1;clear hb2 hB1 CB1 CB hB u0 u1 m0 m1 m2 m3 m4 m5 m6 m7 m8 m9 m10 m11 m12 m13 m14;cases Z with
   | false =>
    have HF:Hid (R=false):=by unfold Hid;rw [← Aa HRR];simp
    clear HRR;go_wp2;go_ret;exact ⟨by rw [Aa HF];rfl,hB2⟩
   | true =>
    have HF:Hid (Cd.mapTys T L (l.drop (k+1))=R):=by unfold Hid Cd.mapTys;rw [← Aa HRR];simp
    clear HRR;go_wp2
    go_roundw
    case rel=>exact ⟨k+1,by omega,by go_num,HF,hB2,CB2⟩
    case measure=>simp [intOf];omega
  ·have HF:Hid (R=true):=by unfold Hid;rw [← Aa HR,List.drop_eq_nil_of_le (by omega)];rfl
   have kb:¬ (k:Int) < (l.length:Int):=by omega
   clear HR;go_wp2;go_ret;exact ⟨by rw [Aa HF];rfl,hB⟩
def Cd.mapMay (T:List Int) (L:List Cd.Ins) (x:Rd.Mp):Bool:=(Cd.findAt x.place L).isSome && (Cd.mapTys T L x.locals && Cd.mapTys T L x.stack)
theorem Qr (b:PBd) (bb b2:Nat) (x:Rd.Mp) (v1a v2a:Option Addr) (v1c v2c:Nat) (w:World) (hb:b.ok w bb) (hl1:x.locals.length≤1000) (hl2:x.stack.length≤1000) (ht1:TysAt w b2 (.slice v1a x.locals.length v1c) x.locals) (ht2:TysAt w b2 (.slice v2a x.stack.length v2c) x.stack) :
  Calls Tryz.prog 194 #[b.val,.agg #[.int .i64 x.place,.slice v1a x.locals.length v1c,.slice v2a x.stack.length v2c]] w fun e w'=>e=.returned (.bool (Cd.mapMay b.T b.L x))∧Below w.heap.size w w':=by
 have hBe:=fun w (h:b.ok w bb)=>Gj b.L b.la b.lc bb x.place w h.2.1 h.2.2.2;have hM1:=fun w' (h:Below w.heap.size w w')=>Kc b bb b2 x.locals v1a v1c w' (hb.below h) hl1 (ht1.kp (Kp.of_below (e:=none) h) (by decide));have hM2:=fun w' (h:Below w.heap.size w w')=>Kc b bb b2 x.stack v2a v2c w' (hb.below h) hl2 (ht2.kp (Kp.of_below (e:=none) h) (by decide));have HOK:∀ w',Below w.heap.size w w'→b.ok w' bb:=fun w' h=>hb.below h;obtain ⟨plc,loc,stk⟩:=x;unfold Cd.mapMay;simp only at hBe hM1 hM2 ⊢;generalize Cd.mapTys b.T b.L loc=M1 at *;generalize Cd.mapTys b.T b.L stk=M2 at *;generalize (Cd.findAt plc b.L).isSome=B at *;obtain ⟨fa1,fl1,fc1,fa2,fl2,fc2,tg,tc,ya,yn,yc,cl,nm,pa,pl,pc,r1,r2,lo,st,ca,cn,cc,ha,hl',hc,ma,ml,mc,la,lc,T,L⟩:=b;simp only [PBd.val] at hBe hM1 hM2 ⊢;have HBe:=Ac hBe;have HM1:=Ac hM1;have HM2:=Ac hM2;have HO:=Ac HOK;clear hBe hM1 hM2 HOK hb ht1 ht2;cases B with
 | false =>
  go_enter Tryz.func194,Tryz.ntmps194;go_wp2_with fail
  refine (Aa HBe _ (Aa HO _ (Ah _ _ _))).mono ?_;rintro e w1 ⟨rfl,hb1⟩;go_wp2;go_ret;exact ⟨rfl,(Ah _ _ _).trans (hb1.mono (by simp;omega))⟩
 | true =>
  cases M1 with
  | false =>
   go_enter Tryz.func194,Tryz.ntmps194;go_wp2_with fail
   refine (Aa HBe _ (Aa HO _ (Ah _ _ _))).mono ?_;rintro e w1 ⟨rfl,hb1⟩;have hB1:=(Ah w _ _).trans (hb1.mono (by simp;omega));have CB:=stay hb1 (Aj w _ _);have CX:=stay hb1 (Ai w _ _);clear hb1;obtain ⟨m0,m1,m2,m3,m4,m5,m6,m7,m8,m9,m10,m11,m12,m13,m14⟩:=Fz CB;simp at m0 m1 m2 m3 m4 m5 m6 m7 m8 m9 m10 m11 m12 m13 m14;have x1:=Ab CX 1;have x2:=Ab CX 2;simp at x1 x2;go_wp2_with fail
   refine (Aa HM1 _ hB1).mono ?_;rintro e w2 ⟨rfl,hb2⟩;go_wp2;go_ret;exact ⟨rfl,Bon hB1 hb2⟩
  | true =>
   go_enter Tryz.func194,Tryz.ntmps194;go_wp2_with fail
   refine (Aa HBe _ (Aa HO _ (Ah _ _ _))).mono ?_;rintro e w1 ⟨rfl,hb1⟩;have hB1:=(Ah w _ _).trans (hb1.mono (by simp;omega));have CB:=stay hb1 (Aj w _ _);have CX:=stay hb1 (Ai w _ _);clear hb1;obtain ⟨m0,m1,m2,m3,m4,m5,m6,m7,m8,m9,m10,m11,m12,m13,m14⟩:=Fz CB;simp at m0 m1 m2 m3 m4 m5 m6 m7 m8 m9 m10 m11 m12 m13 m14;have x1:=Ab CX 1;have x2:=Ab CX 2;simp at x1 x2;go_wp2_with fail
   refine (Aa HM1 _ hB1).mono ?_;rintro e w2 ⟨rfl,hb2⟩;have hB2:=Bon hB1 hb2;have CB2:=stay hb2 CB;have CX2:=stay hb2 CX;clear hb2 x1 x2 m0 m1 m2 m3 m4 m5 m6 m7 m8 m9 m10 m11 m12 m13 m14 CB CX;obtain ⟨m0,m1,m2,m3,m4,m5,m6,m7,m8,m9,m10,m11,m12,m13,m14⟩:=Fz CB2;simp at m0 m1 m2 m3 m4 m5 m6 m7 m8 m9 m10 m11 m12 m13 m14;have x2:=Ab CX2 2;simp at x2;go_wp2_with fail
   refine (Aa HM2 _ hB2).mono ?_;rintro e w3 ⟨rfl,hb3⟩;go_wp2;go_ret;exact ⟨by simp,Bon hB2 hb3⟩
def Cd.hndMay (T:List Int) (L:List Cd.Ins) (cn:Int) (x:Rd.Hnd):Bool :=
 if x.til≤x.frm then false else if (Cd.findAt x.frm L).isSome=false then false else if (Cd.findAt x.target L).isSome=false then false
 else if x.til ≠ cn∧(Cd.findAt x.til L).isSome=false then false else Tr.within T x.cl 1
theorem Qu (b:PBd) (bb:Nat) (x:Rd.Hnd) (w:World) (hb:b.ok w bb) :
  Calls Tryz.prog 164 #[b.val,.agg #[.int .i64 x.frm,.int .i64 x.til,.int .i64 x.target,.int .i64 x.cl]] w fun e w'=>e=.returned (.bool (Cd.hndMay b.T b.L (b.cn:Int) x))∧Below w.heap.size w w':=by
 have hBe:=fun p w (h:b.ok w bb)=>Gj b.L b.la b.lc bb p w h.2.1 h.2.2.2;have hBl:=fun w (h:b.ok w bb)=>Fi (ya:=b.ya) (yn:=b.yn) (yc:=b.yc) b.T b.tg b.tc x.cl 1 w h.1 h.2.2.1;have HOK:∀ w',Below w.heap.size w w'→b.ok w' bb:=fun w' h=>hb.below h;obtain ⟨frm,til,tgt,xcl⟩:=x;generalize hR:Cd.hndMay b.T b.L (b.cn:Int) ⟨frm,til,tgt,xcl⟩=R;unfold Cd.hndMay at hR;simp only at hBl hR ⊢;have h1:=fun w h=>hBe frm w h;have h2:=fun w h=>hBe tgt w h;have h3:=fun w h=>hBe til w h;generalize (Cd.findAt frm b.L).isSome=A at *;generalize (Cd.findAt tgt b.L).isSome=C at *;generalize (Cd.findAt til b.L).isSome=B at *;generalize Tr.within b.T xcl 1=D at *;obtain ⟨fa1,fl1,fc1,fa2,fl2,fc2,tg,tc,ya,yn,yc,cl,nm,pa,pl,pc,r1,r2,lo,st,ca,cn,cc,ha,hl',hc,ma,ml,mc,la,lc,T,L⟩:=b;simp only [PBd.val] at h1 h2 h3 hBl hR ⊢;have HA:=Ac h1;have HC:=Ac h2;have HB:=Ac h3;have HD:=Ac hBl;have HO:=Ac HOK;clear hBe h1 h2 h3 hBl HOK hb;by_cases h1:til≤frm
 ·have HR:Hid (R=false):=by unfold Hid;rw [← hR];simp [h1]
  clear hR;go_enter Tryz.func164,Tryz.ntmps164;go_wp2;go_ret;exact ⟨by rw [Aa HR];rfl,Ah _ _ _⟩
 ·cases A with
  | false =>
   have HR:Hid (R=false):=by unfold Hid;rw [← hR];simp
   clear hR;go_enter Tryz.func164,Tryz.ntmps164;go_wp2_with fail
   refine (Aa HA _ (Aa HO _ (Ah _ _ _))).mono ?_;rintro e w1 ⟨rfl,hb1⟩;have hB1:=(Ah w _ _).trans (hb1.mono (by simp;omega));have CB1:=stay hb1 (Aj w _ _);have CX1:=stay hb1 (Ai w _ _);clear hb1;have m2:=Ab CB1 2;have m3:=Ab CB1 3;have m11:=Ab CB1 11;have m14:=Ab CB1 14;obtain ⟨x0,x1,x2,x3⟩:=cl4 CX1;simp at m2 m3 m11 m14 x0 x1 x2 x3;go_wp2;go_ret;exact ⟨by rw [Aa HR];rfl,hB1⟩
  | true =>
   cases C with
   | false =>
    have HR:Hid (R=false):=by unfold Hid;rw [← hR];simp
    clear hR;go_enter Tryz.func164,Tryz.ntmps164;go_wp2_with fail
    refine (Aa HA _ (Aa HO _ (Ah _ _ _))).mono ?_;rintro e w1 ⟨rfl,hb1⟩;have hB1:=(Ah w _ _).trans (hb1.mono (by simp;omega));have CB1:=stay hb1 (Aj w _ _);have CX1:=stay hb1 (Ai w _ _);clear hb1;have m2:=Ab CB1 2;have m3:=Ab CB1 3;have m11:=Ab CB1 11;have m14:=Ab CB1 14;obtain ⟨x0,x1,x2,x3⟩:=cl4 CX1;simp at m2 m3 m11 m14 x0 x1 x2 x3;go_wp2_with fail
    refine (Aa HC _ (Aa HO _ hB1)).mono ?_;rintro e w2 ⟨rfl,hb2⟩;have hB2:=Bon hB1 hb2;have CB2:=stay hb2 CB1;have CX2:=stay hb2 CX1;clear hb2 m2 m3 m11 m14 x0 x1 x2 x3 CB1 CX1;have m2:=Ab CB2 2;have m3:=Ab CB2 3;have m11:=Ab CB2 11;have m14:=Ab CB2 14;obtain ⟨x0,x1,x2,x3⟩:=cl4 CX2;simp at m2 m3 m11 m14 x0 x1 x2 x3;go_wp2;go_ret;exact ⟨by rw [Aa HR];rfl,hB2⟩
   | true =>
    by_cases h2:til=(cn:Int)
    ·have h2':(til != (cn:Int))=false:=by simp [h2]
     have h1':¬ (cn:Int)≤frm:=by omega
     have HH2:=Ac h2;have HR:Hid (R=D):=by unfold Hid;rw [← hR];simp [h2,h1']
     clear hR;go_enter Tryz.func164,Tryz.ntmps164;clear h2;go_wp2_with fail
     refine (Aa HA _ (Aa HO _ (Ah _ _ _))).mono ?_;rintro e w1 ⟨rfl,hb1⟩;have hB1:=(Ah w _ _).trans (hb1.mono (by simp;omega));have CB1:=stay hb1 (Aj w _ _);have CX1:=stay hb1 (Ai w _ _);clear hb1;have m2:=Ab CB1 2;have m3:=Ab CB1 3;have m11:=Ab CB1 11;have m14:=Ab CB1 14;obtain ⟨x0,x1,x2,x3⟩:=cl4 CX1;simp at m2 m3 m11 m14 x0 x1 x2 x3;go_wp2_with fail
     refine (Aa HC _ (Aa HO _ hB1)).mono ?_;rintro e w2 ⟨rfl,hb2⟩;have hB2:=Bon hB1 hb2;have CB2:=stay hb2 CB1;have CX2:=stay hb2 CX1;clear hb2 m2 m3 m11 m14 x0 x1 x2 x3 CB1 CX1;have m2:=Ab CB2 2;have m3:=Ab CB2 3;have m11:=Ab CB2 11;have m14:=Ab CB2 14;obtain ⟨x0,x1,x2,x3⟩:=cl4 CX2;simp at m2 m3 m11 m14 x0 x1 x2 x3;go_wp2_with fail
     refine (Aa HD _ (Aa HO _ hB2)).mono ?_;rintro e w9 ⟨rfl,hb9⟩;go_wp2;go_ret;exact ⟨by rw [Aa HR];rfl,Bon hB2 hb9⟩
    ·have h2':(til != (cn:Int))=true:=by simp [h2]
     cases B with
     | false =>
      have HR:Hid (R=false):=by unfold Hid;rw [← hR];simp [h2]
      clear hR;go_enter Tryz.func164,Tryz.ntmps164;go_wp2_with fail
      refine (Aa HA _ (Aa HO _ (Ah _ _ _))).mono ?_;rintro e w1 ⟨rfl,hb1⟩;have hB1:=(Ah w _ _).trans (hb1.mono (by simp;omega));have CB1:=stay hb1 (Aj w _ _);have CX1:=stay hb1 (Ai w _ _);clear hb1;have m2:=Ab CB1 2;have m3:=Ab CB1 3;have m11:=Ab CB1 11;have m14:=Ab CB1 14;obtain ⟨x0,x1,x2,x3⟩:=cl4 CX1;simp at m2 m3 m11 m14 x0 x1 x2 x3;go_wp2_with fail
      refine (Aa HC _ (Aa HO _ hB1)).mono ?_;rintro e w2 ⟨rfl,hb2⟩;have hB2:=Bon hB1 hb2;have CB2:=stay hb2 CB1;have CX2:=stay hb2 CX1;clear hb2 m2 m3 m11 m14 x0 x1 x2 x3 CB1 CX1;have m2:=Ab CB2 2;have m3:=Ab CB2 3;have m11:=Ab CB2 11;have m14:=Ab CB2 14;obtain ⟨x0,x1,x2,x3⟩:=cl4 CX2;simp at m2 m3 m11 m14 x0 x1 x2 x3;go_wp2_with fail
      refine (Aa HB _ (Aa HO _ hB2)).mono ?_;rintro e w3 ⟨rfl,hb3⟩;have hB3:=Bon hB2 hb3;have CB3:=stay hb3 CB2;have CX3:=stay hb3 CX2;clear hb3 m2 m3 m11 m14 x0 x1 x2 x3 CB2 CX2;have m2:=Ab CB3 2;have m3:=Ab CB3 3;have m11:=Ab CB3 11;have m14:=Ab CB3 14;obtain ⟨x0,x1,x2,x3⟩:=cl4 CX3;simp at m2 m3 m11 m14 x0 x1 x2 x3;go_wp2;go_ret;exact ⟨by rw [Aa HR];rfl,hB3⟩
     | true =>
      have HR:Hid (R=D):=by unfold Hid;rw [← hR];simp [h1,h2]
      clear hR;go_enter Tryz.func164,Tryz.ntmps164;go_wp2_with fail
      refine (Aa HA _ (Aa HO _ (Ah _ _ _))).mono ?_;rintro e w1 ⟨rfl,hb1⟩;have hB1:=(Ah w _ _).trans (hb1.mono (by simp;omega));have CB1:=stay hb1 (Aj w _ _);have CX1:=stay hb1 (Ai w _ _);clear hb1;have m2:=Ab CB1 2;have m3:=Ab CB1 3;have m11:=Ab CB1 11;have m14:=Ab CB1 14;obtain ⟨x0,x1,x2,x3⟩:=cl4 CX1;simp at m2 m3 m11 m14 x0 x1 x2 x3;go_wp2_with fail
      refine (Aa HC _ (Aa HO _ hB1)).mono ?_;rintro e w2 ⟨rfl,hb2⟩;have hB2:=Bon hB1 hb2;have CB2:=stay hb2 CB1;have CX2:=stay hb2 CX1;clear hb2 m2 m3 m11 m14 x0 x1 x2 x3 CB1 CX1;have m2:=Ab CB2 2;have m3:=Ab CB2 3;have m11:=Ab CB2 11;have m14:=Ab CB2 14;obtain ⟨x0,x1,x2,x3⟩:=cl4 CX2;simp at m2 m3 m11 m14 x0 x1 x2 x3;go_wp2_with fail
      refine (Aa HB _ (Aa HO _ hB2)).mono ?_;rintro e w3 ⟨rfl,hb3⟩;have hB3:=Bon hB2 hb3;have CB3:=stay hb3 CB2;have CX3:=stay hb3 CX2;clear hb3 m2 m3 m11 m14 x0 x1 x2 x3 CB2 CX2;have m2:=Ab CB3 2;have m3:=Ab CB3 3;have m11:=Ab CB3 11;have m14:=Ab CB3 14;obtain ⟨x0,x1,x2,x3⟩:=cl4 CX3;simp at m2 m3 m11 m14 x0 x1 x2 x3;go_wp2_with fail
      refine (Aa HD _ (Aa HO _ hB3)).mono ?_;rintro e w9 ⟨rfl,hb9⟩;go_wp2;go_ret;exact ⟨by rw [Aa HR];rfl,Bon hB3 hb9⟩
end Go.Proofs.YtcefiamkoincoaaGreat
