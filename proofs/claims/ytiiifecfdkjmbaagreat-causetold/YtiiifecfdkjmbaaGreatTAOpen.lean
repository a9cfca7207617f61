/- Lemmas. Lemmas. Lemmas. Lemmas. Lemmas. Lemmas. Lemmas. Lemmas. -/
import Derived.Test.YtiiifecfdkjmbaaGreatTRTellX
import Derived.Test.YtiiifecfdkjmbaaGreatTRegM
import Derived.Test.YtiiifecfdkjmbaaGreatTOwnX
import Derived.Test.YtiiifecfdkjmbaaGreatTAgM
import Derived.Test.YtiiifecfdkjmbaaGreatTMsg
import Derived.ProofKit
import Derived.OpenShut
import Derived.ShutString
import Derived.ChangeOld
import Derived.SizedLaws
import Derived.Test.YtiiifecfdkjmbaaGreatTWorld1
import Derived.Deep.Slices
namespace Go.Proofs.YtiiifecfdkjmbaaGreat
set_option maxRecDepth 8000
open Go.RowKit Go.Shelf
open Pu
set_option linter.unusedVariables false
set_option linter.unusedSimpArgs false
theorem bH {w w':World} {q o:Nat} {m:Mg} (h:aZ w q o m) (e:w'.heap[q]? = w.heap[q]?):aZ w' q o m:=by
 have hc:∀ j,w'.cell? ⟨q,j,none⟩=w.cell? ⟨q,j,none⟩:=fun j=>by unfold World.cell?;rw [e]
 exact ⟨(hc _).trans h.c0,(hc _).trans h.c1,(hc _).trans h.c2,(hc _).trans h.c3,(hc _).trans h.c4⟩
theorem aB {w w':World} {q o:Nat} {m:Mg} (h:aZ w q o m) (hq:q < w.heap.size) (k:Since w w'):aZ w' q o m :=
 ⟨(k.cellAt hq _).trans h.c0,(k.cellAt hq _).trans h.c1,(k.cellAt hq _).trans h.c2,(k.cellAt hq _).trans h.c3,(k.cellAt hq _).trans h.c4⟩
theorem dA {w wr:World} {p:Nat} (h0:w.heap.size<=p) (hS:Since w wr):Since w (((wr.setCell ⟨p,0,none⟩ (.slice none 0 0)).setCell ⟨p,1,none⟩ (.slice none 0 0)).setCell ⟨p,2,none⟩ (.slice none 0 0)):=by
 have hF:Fr (fun i=>i=p) wr wr:=Fr.refl _ _
 exact (((hF.setCell ⟨p,0,none⟩ _ (fun _=>rfl)).setCell ⟨p,1,none⟩ _ (fun _=>rfl)).setCell ⟨p,2,none⟩ _ (fun _=>rfl)).dz hS (fun i hi e=>by omega)
def wY (w:World) (r:Except Int Wd) (e:Ending) (w':World):Prop :=
 (∀ er,r=.error er->e=.returned (.tuple #[.agg #[.slice none 0 0,.slice none 0 0,.slice none 0 0],.int .i64 er])/\Since w w') /\
 (∀ d',r=.ok d'->∃ L,e=.returned (.tuple #[bW L d',.int .i64 0])/\aX w.heap.size w' d' L/\Since w w')
theorem iy {w:World} {er:Int} {w':World} (hS:Since w w'):wY w (.error er) (.returned (.tuple #[.agg #[.slice none 0 0,.slice none 0 0,.slice none 0 0],.int .i64 er])) w' :=
 ⟨fun _ h=>(by cases h;exact ⟨rfl,hS⟩),fun _ h=>(by cases h)⟩
theorem j5 {w:World} {d:Wd} {L:Lay} {w':World} (hO:aX w.heap.size w' d L) (hS:Since w w'):wY w (.ok d) (.returned (.tuple #[bW L d,.int .i64 0])) w' :=
 ⟨fun _ h=>(by cases h),fun _ h=>(by cases h;exact ⟨L,rfl,hO,hS⟩)⟩
theorem sM {w:World} {d':Wd} {e:Ending} {w':World} (h:Hid (wY w (.ok d') e w')) :
  ∃ v:WV,e=.returned (.tuple #[.agg #[.slice v.ga v.gl v.gc,.slice v.na v.nl v.nc,.slice v.wa v.wl v.wc],.int .i64 0])/\WAt w' v d'/\Since w w':=by
 obtain ⟨L,e,hO,hS⟩:=h.out.2 d' rfl
 exact ⟨gK L d',e,hO.wat,hS⟩
theorem Kl {d:Wd} {a b:Nat} (ha:a < d.wires.length) {row:List (List Mg)} (hr:d.wires[a]? = some row) (hb:b < row.length):∃ l,row[b]? = some l/\au d a b=l:=by
 refine ⟨_,zQ1 hb, ?_⟩
 unfold au;rw [hr];simp [hb]
theorem KY {w:World} {lo bl ol lc:Nat} {M:Mg} {rest:List Mg} (h:Row w lo 5 ⟨some ⟨bl,ol,none⟩,lc⟩ (rest.length+1) (flat (M::rest))) :
  ∃ (sa:Option Addr) (sc:Nat),((lc=1/\rest.length=0/\sa=some ⟨bl,ol,none⟩/\sc=0)\/(1 < lc/\sa=some ⟨bl,ol+5,none⟩/\sc=lc - 1))/\Row w lo 5 ⟨sa,sc⟩ rest.length (flat rest)/\∀ b,Sl.blk ⟨sa,sc⟩=some b->Sl.blk ⟨some ⟨bl,ol,none⟩,lc⟩=some b:=by
 have hc:=h.cap
 dsimp only at hc
 by_cases h1:lc=1
 ·have hr:rest.length=0:=by omega
  have hr':rest=[]:=zQ6 hr
  subst hr'
  refine ⟨_,_,.inl ⟨h1,rfl,rfl,rfl⟩,⟨rfl,Nat.le_refl _,Nat.zero_le _,fun _=>.inr ⟨_,_,rfl⟩,fun hp=>absurd hp (by simp)⟩,fun b e=>?_⟩
  unfold Sl.blk at e;simp at e
 ·have hd:=h.drop 1 (by omega) (by omega)
  refine ⟨_,_,.inr ⟨by omega,rfl,rfl⟩, ?_,fun b e=>?_⟩
  ·have e:(flat (M::rest)).drop (1*5)=flat rest:=by
    show (M.cells++flat rest).drop 5=flat rest
    rw [List.drop_append_of_le_length (by simp [Mg.cells])];simp [Mg.cells]
   rw [e] at hd
   simpa using hd
  ·unfold Sl.blk at e ⊢
   rw [if_neg (by show ¬ lc - 1=0;omega)] at e
   rw [if_neg (by show ¬ lc=0;omega)]
   exact e
theorem uS {P:Program} {o:Oper} {a:Act} {S:World->Prop} {K:Act->Prop} {v:Value} (h:o.quiet P a S (fun a'=>a'=a.put o.dst v)) (hK:K (a.put o.dst v)):o.quiet P a S K:=by
 obtain ⟨v',hv,e⟩:=h
 exact ⟨v',hv,by rw [e];exact hK⟩
def AZ (x:Nd) (m:Mg):Nd:={ x with clock:=max x.clock m.st }
def acV (x:Ac):Value:=.agg #[.int .i64 x.kind,.int .i64 x.one,.int .i64 x.two,.string x.body]
def jQ (nodes:Nat) (l:List Int) (k:Nat):Wd:=⟨l,List.replicate k ⟨0,List.replicate l.length (List.replicate nodes 0),[],[]⟩,List.replicate k (List.replicate nodes [])⟩
open _root_.Go.Proofs.Tryz hiding checked
structure Oi (w:World) (b o:Nat) (x:Ac):Prop where
 c0:w.cell? ⟨b,o,none⟩=some (.int .i64 x.kind)
 c1:w.cell? ⟨b,o+1,none⟩=some (.int .i64 x.one)
 c2:w.cell? ⟨b,o+2,none⟩=some (.int .i64 x.two)
 c3:w.cell? ⟨b,o+3,none⟩=some (.string x.body)
structure mQ (w:World) (a:Option Addr) (len:Nat) (xs:List Ac):Prop where
 hlen:xs.length=len
 hmax:len<=3518437208780
 cells:0 < len->∃ b off,a=some ⟨b,off,none⟩/\b < w.heap.size/\∀ (i:Nat) (x:Ac),xs[i]? = some x->Oi w b (off+i*4) x
theorem mQ.since {w W:World} {a:Option Addr} {len:Nat} {xs:List Ac} (h:mQ w a len xs) (k:Since w W):mQ W a len xs :=
 ⟨h.hlen,h.hmax,fun hp=>by
  obtain ⟨b,off,e,hb,hc⟩:=h.cells hp
  exact ⟨b,off,e,zQ4 hb k.size,fun i x hx=>let g:=hc i x hx;⟨(k.cellAt hb _).trans g.c0,(k.cellAt hb _).trans g.c1,(k.cellAt hb _).trans g.c2,(k.cellAt hb _).trans g.c3⟩⟩⟩
theorem Di {m:Mg} {n:Nat} {d:Wd} {e:Int}:∀ i:Nat,fE m n d i=.error e->e≠0
 | 0,h=>by cases h
 | i+1,h=>by
  rw [lD] at h
  rcases bX h with h | ⟨d1,_,h2⟩
  ·exact Di i h
  ·unfold jM at h2
   split at h2
   ·cases h2
   ·split at h2
    ·cases h2;simp
    ·split at h2
     ·cases h2;simp
     ·cases h2
theorem JJ {d:Wd} {n:Nat} {e:Int} (h:eF d n=.error e):e≠0:=by
 unfold eF at h
 split at h
 ·cases h;simp
 ·split at h
  ·cases h;simp
  ·split at h
   ·cases h;simp
   ·cases h
theorem G5 {d:Wd} {n:Nat} {m:Mg} {e:Int} (h:fD d n m=.error e):e≠0:=by
 unfold fD at h
 split at h
 ·cases h
 ·unfold xX at h
  split at h
  ·cases h;simp
  ·split at h
   ·cases h
   ·rename_i hz;cases h;exact hz
theorem Dj {d:Wd} {n:Nat} {m:Mg} {e:Int} (h:((fD d n m).bind fun d3=>(eF d3 n).bind fun p=>.ok p.1)=.error e):e≠0:=by
 rcases bX h with h | ⟨d3,_,h⟩
 ·exact G5 h
 ·rcases bX h with h | ⟨p,_,h⟩
  ·exact JJ h
  ·cases h
theorem tY {d:Wd} {n g:Int} {nul:Bool} {body:ByteArray} {e:Int} (h:ig d n g nul body=.error e):e≠0:=by
 unfold ig at h
 split at h
 ·rcases bX h with h | ⟨d2,_,h⟩
  ·exact Di _ h
  ·exact Dj h
 ·rename_i hz;cases h;exact hz
theorem yc {d:Wd} {f t:Nat} {e:Int} (h:iD d f t=.error e):e≠0:=by
 unfold iD at h
 split at h
 ·cases h;simp
 ·exact Dj h
theorem MJ {d:Wd} {a:Ac} (h4:a.kind≠4) {e:Int} (h:doD d a=.error e):e≠0:=by
 unfold doD checked kT at h
 split at h
 ·split at h
  ·exact tY h
  ·rename_i hz;cases h;exact hz
 ·split at h
  ·split at h
   ·exact tY h
   ·rename_i hz;cases h;exact hz
  ·split at h
   ·split at h
    ·split at h
     ·exact yc h
     ·cases h;simp
    ·rename_i hz;cases h;exact hz
   ·cases h;simp
theorem LJ {lo lo':Nat} {w:World} {p:Nat} {d d':Wd} {L L':Lay} (hO:aX lo' w d' L') (hB:kr w p L d) (hl:lo<=lo') (hp:p < lo') :
  dN lo (((w.setCell ⟨p,0,none⟩ (.slice (L' (0,0,0)).a d'.groups.length (L' (0,0,0)).cap)).setCell ⟨p,1,none⟩ (.slice (L' (1,0,0)).a d'.nodes.length (L' (1,0,0)).cap)).setCell ⟨p,2,none⟩ (.slice (L' (2,0,0)).a d'.wires.length (L' (2,0,0)).cap)) p d' L':=by
 have hoff:¬ fU d' L' p:=fun hb=>by have:=(hO.blk hb).1;omega
 refine ⟨(((hO.jV (p:=⟨p,0,none⟩) hoff _).jV (p:=⟨p,1,none⟩) hoff _).jV (p:=⟨p,2,none⟩) hoff _).mono hl, ?_,hoff⟩
 have h0:=hB.c0
 have h1:=hB.c1
 have h2:=hB.c2
 have z0:=hB.z0
 have z1:=hB.z1
 have z2:=hB.z2
 have lt:=hB.lt
 constructor <;> simp [go_sem,h0,h1,h2,z0,z1,z2,lt]
theorem EW {w:World} {p:Nat} {d:Wd} {L:Lay} (h:aL w p) :
  kr (((w.setCell ⟨p,0,none⟩ (.slice (L (0,0,0)).a d.groups.length (L (0,0,0)).cap)).setCell ⟨p,1,none⟩ (.slice (L (1,0,0)).a d.nodes.length (L (1,0,0)).cap)).setCell ⟨p,2,none⟩ (.slice (L (2,0,0)).a d.wires.length (L (2,0,0)).cap)) p L d:=by
 obtain ⟨lt,r0,r1,r2,r3,r4,r5⟩:=h
 constructor <;> simp [go_sem,lt,r0,r1,r2,r3,r4,r5]
theorem KA (k n g:Int) (body:ByteArray) (w:World) :
  Calls prog 94 #[.int .i64 k,.int .i64 n,.int .i64 g,.string body] w fun e w'=>e=.returned (.agg #[.int .i64 k,.int .i64 n,.int .i64 g,.string body])/\Since w w':=by
 go_enter func94,ntmps94
 go_wp2
 refine bodyPost_ret (v:=.agg #[.int .i64 k,.int .i64 n,.int .i64 g,.string body]) (by simp [results,results94,go_sem]) rfl ?_
 exact ⟨rfl,(Since.refl _).alloc _⟩
def fK (x:Ac):List Value:=[.int .i64 x.kind,.int .i64 x.one,.int .i64 x.two,.string x.body]
theorem Jf (w:World) (acts:List Ac) (hl:acts.length<=1000000) (T:TypeId):mQ (w.alloc (.cells (acts.flatMap fK).toArray T)) (some ⟨w.heap.size,0,none⟩) acts.length acts:=by
 refine ⟨rfl,by omega,fun hp=>⟨_,_,rfl,by simp,fun i x hx=>?_⟩⟩
 have key:∀ (l:List Ac) (i:Nat) (x:Ac),l[i]? = some x->∀ j,j < 4->(l.flatMap fK)[i*4+j]? = (fK x)[j]?:=by
  intro l
  induction l with
  | nil=>intro i x h;simp at h
  | cons y ys ih =>
   intro i x h j hj
   cases i with
   | zero =>
    simp at h;subst h
    rw [List.flatMap_cons,List.getElem?_append_left (by simp [fK];omega)];simp
   | succ i =>
    simp at h
    rw [List.flatMap_cons,List.getElem?_append_right (by simp [fK];omega)]
    have:=ih i x h j hj
    rw [<-this];congr 1;simp [fK];omega
 have hc:∀ o v,(acts.flatMap fK)[o]? = some v->(w.alloc (.cells (acts.flatMap fK).toArray T)).cell? ⟨w.heap.size,o,none⟩=some v:=by
  intro o v hv
  unfold World.cell?
  have hh:=World.alloc_heap_new w (.cells (acts.flatMap fK).toArray T)
  simp only [hh]
  simpa using hv
 have k0:=key acts i x hx
 refine ⟨?_, ?_, ?_, ?_⟩
 ·rw [Nat.zero_add];exact hc _ _ (k0 0 (by omega))
 ·rw [Nat.zero_add];exact hc _ _ (k0 1 (by omega))
 ·rw [Nat.zero_add];exact hc _ _ (k0 2 (by omega))
 ·rw [Nat.zero_add];exact hc _ _ (k0 3 (by omega))
end Go.Proofs.YtiiifecfdkjmbaaGreat
set_option maxHeartbeats 2000000
namespace Go.Proofs.YtiiifecfdkjmbaaGreat
open _root_.Go.Proofs.Tryz hiding checked
set_option maxRecDepth 8000
open Go.RowKit Go.Shelf
open Pu
set_option linter.unusedVariables false
set_option linter.unusedSimpArgs false
attribute [local go_sem] Oper.semAt_some
def EX (L:List Ac) (h:List Ac) (x:Ac):Prop:=L[h.length]? = some x/\h=L.take h.length
def bK (L:List Ac):List Ac:=L.filter fun x=>x.kind != 4
theorem BS {L:List Ac} {k:Nat} {x:Ac} (hx:L[k]? = some x) (h4:(x.kind != 4)=true):EX (bK L) (bK (L.take k)) x:=by
 have hk:=(zQ2.1 hx).1
 have e:bK L=bK (L.take k)++(x::bK (L.drop (k+1))):=by
  unfold bK
  have e0:L=L.take k++(x::L.drop (k+1)):=by
   conv=>lhs;rw [<-List.take_append_drop k L]
   rw [List.drop_eq_getElem_cons hk]
   have:=(zQ2.1 hx).2
   rw [this]
  conv=>lhs;rw [e0]
  rw [List.filter_append,List.filter_cons,if_pos h4]
 obtain ⟨A,hA⟩:∃ A,bK (L.take k)=A:=⟨_,rfl⟩
 rw [hA] at e ⊢
 constructor
 ·rw [e,List.getElem?_append_right (Nat.le_refl _),Nat.sub_self];rfl
 ·rw [e,List.take_left'];rfl
theorem u7 {L:List Ac} {k:Nat} {x:Ac} (hx:L[k]? = some x):bK (L.take (k+1))=bK (L.take k)++(if (x.kind != 4)=true then [x] else []):=by
 unfold bK
 rw [List.take_add_one,hx,List.filter_append]
 congr 1
 cases h:(x.kind != 4) <;> simp [h]
theorem Ap (a:Option Addr) (n c:Nat) (w:World) :
  Calls prog 131 #[.slice a n c] w fun e w'=>e=.returned (.func (.func 176) #[] #[.pointer (some ⟨w.heap.size,0,none⟩)])/\w'=w.alloc (.cells #[.slice a n c] 50):=by
 go_enter func131,ntmps131
 go_wp2
 go_ret
 exact ⟨rfl,rfl⟩
set_option maxRecDepth 100000 in
theorem Aq (m:Nat) (Bj n0 base:Nat) (w:World) (hn0:n0<=w.heap.size) (hBj:Bj < w.heap.size) (a:Option Addr) (c:Nat) (L:List Ac) (hM:∀ W',Below n0 w W'->mQ W' a L.length L) (c0:w.cell? ⟨Bj,0,none⟩=some (.slice a L.length c)) :
  Md prog m 176 #[.pointer (some ⟨Bj,0,none⟩)] (fun x:Ac=>#[acV x]) (KH n0 Bj base) (EX (bK L)) (fun h=>h=bK L) w:=by
 intro l J Jp W hW hJ hY h0
 have C:∀ W',KH n0 Bj base W W'->W.heap.size<=W'.heap.size/\W'.cell? ⟨Bj,0,none⟩=some (.slice a L.length c)/\mQ W' a L.length L:=fun W' h =>
  ⟨h.kb.below.size,(h.kb.cell 0).trans ((hW.cellAt hBj _).trans c0),hM W' ((hW.below.mono hn0).trans h.kb.below)⟩
 obtain ⟨-,d0,hM0⟩:=C W (KH.refl _ _ _ _)
 have hmax:=hM0.hmax
 have hWs:=hW.size
 refine callsIn_of_wp func176 rfl trivial ?_ rfl
 simp only [ntmps176,List.size_toArray,List.length_cons,List.length_nil,Nat.reduceAdd,Nat.reduceSub,Array.replicate_succ,Array.replicate_zero,List.push_toArray,List.append_toArray,List.nil_append,List.cons_append]
 gi_wp2
 gi_loopw [7] (fun i wr=>∃ k:Nat,k<=L.length/\i=.int .i64 k/\J (bK (L.take k)) wr/\KH n0 Bj base W wr) (fun i _=>L.length - (intOf i).toNat)
 case atStart=>exact ⟨0,Nat.zero_le _,rfl,h0,KH.refl _ _ _ _⟩
 case round =>
  obtain ⟨k,hk,rfl,hJs,hB⟩:=hrel
  obtain ⟨hSr,f0,hMr⟩:=C wr hB
  by_cases hlt:k < L.length
  ·obtain ⟨x,hx⟩:∃ x,L[k]? = some x:=⟨_,zQ1 hlt⟩
   obtain ⟨b,off,rfl,hbb,hcell⟩:=hMr.cells (by omega)
   obtain ⟨e0,e1,e2,e3⟩:=hcell k x hx
   have HT:=(show Hid _ from u7 hx)
   obtain ⟨W2,hW2⟩:∃ y,wr.alloc (.cells #[.int .i64 x.kind,.int .i64 x.one,.int .i64 x.two,.string x.body] 58)=y:=⟨_,rfl⟩
   have hS2:=ay hW2
   have z0:W2.cell? ⟨wr.heap.size,0,none⟩=some (.int .i64 x.kind):=by rw [<-hW2];simp [go_sem]
   have z1:W2.cell? ⟨wr.heap.size,1,none⟩=some (.int .i64 x.one):=by rw [<-hW2];simp [go_sem]
   have z2:W2.cell? ⟨wr.heap.size,2,none⟩=some (.int .i64 x.two):=by rw [<-hW2];simp [go_sem]
   have z3:W2.cell? ⟨wr.heap.size,3,none⟩=some (.string x.body):=by rw [<-hW2];simp [go_sem]
   cases h4:(x.kind != 4)
   ·have HT2:Hid (bK (L.take (k+1))=bK (L.take k)):=by unfold Hid;have:=HT.out;rw [h4] at this;simpa using this
    have hJ2:=hJ _ _ _ hJs (KM.cZ hS2 hSr)
    rw [<-HT2.out] at hJ2
    have hB2:KH n0 Bj base W W2:=hB.trans (KH.cZ hS2 (by omega) (by omega))
    clear hY hcell hx hM0 hMr HT
    gi_wp2
    refine ⟨fun f hf=>(by cases hf), ?_⟩
    clear hW2 z0 z1 z2 z3
    gi_wp2
    go_roundw
    case rel=>exact ⟨k+1,by omega,by simp,hJ2,hB2⟩
    case measure=>simp [intOf];omega
   ·have HT2:Hid (bK (L.take (k+1))=bK (L.take k)++[x]):=by unfold Hid;have:=HT.out;rw [h4] at this;simpa using this
    have hNX:=BS hx h4
    obtain ⟨fn,tmps,assign,body,hy,hR⟩:=hY (bK (L.take k)) x W2 (hJ _ _ _ hJs (KM.cZ hS2 hSr)) hNX
    simp only [acV] at hy
    clear hY hcell hx hNX hM0 hMr HT
    gi_wp2
    refine ⟨fun h=>(by cases h), ?_⟩
    refine hR.mono ?_
    rintro e W3 (⟨rfl,hJ3,hk3⟩ | ⟨ch,rfl,hp3⟩)
    ·have hB3:KH n0 Bj base W W3:=(hB.trans (KH.cZ hS2 (by omega) (by omega))).trans hk3
     rw [<-HT2.out] at hJ3
     clear hy hR z0 z1 z2 z3 hW2
     gi_wp2
     go_roundw
     case rel=>exact ⟨k+1,by omega,by simp,hJ3,hB3⟩
     case measure=>simp [intOf];omega
    ·exact ⟨rfl,.inr ⟨ch,rfl,hp3⟩⟩
  ·obtain rfl:k=L.length:=by omega
   rw [List.take_length] at hJs
   clear hM0 hMr
   gi_wp2
   go_end0
   exact .inl ⟨_,_,rfl,rfl,hJs⟩
end Go.Proofs.YtiiifecfdkjmbaaGreat
namespace Go.Proofs.YtiiifecfdkjmbaaGreat
open _root_.Go.Proofs.Tryz hiding checked
set_option maxRecDepth 8000
open Go.ChangeShapes Go.WideShapes Go.ChangeAt Go.RowKit
set_option linter.unusedVariables false
theorem own:ownKnob prog.godebug=none:=by kernel_rfl
theorem laidOut:laidOutB prog=true:=by kernel_rfl
theorem Iw:prog.bytesOf 3=8:=by kernel_rfl
theorem block_lt {w:World} {b o:Nat} {v:Value} (h:w.cell? ⟨b,o,none⟩=some v):b < w.heap.size:=by
 rcases Nat.lt_or_ge b w.heap.size with h1 | h1
 ·exact h1
 ·simp [World.cell?,Array.getElem?_eq_none h1] at h
theorem Al {H:Type} {enc:TypeId × Value->H} {W:World} {a:Option Addr} {len cap:Nat} {d:DataW H} {p:List MemPlace} (h:DataW.Trod enc prog W 0 (fun _=>true) true 22 (.slice a len cap) d p)
  (hsz:∀ el sp,d=.slice el sp->(el.length+sp.length)*8<=reachBytes):∃ xs,Ints W a len xs:=by
 obtain ⟨fuel,hf⟩:=h
 rcases open_ints underlying22 underlying3 (by kernel_rfl) hf with ⟨hcs,_⟩ | ⟨x,l,c,zs,hcs,_,hl,hm,hz,hx,hcell,hwz⟩
 ·simp [Value.cells] at hcs
  obtain ⟨rfl,rfl,rfl⟩:=hcs
  exact ⟨[],Ce⟩
 ·simp [Value.cells] at hcs
  obtain ⟨rfl,rfl,rfl⟩:=hcs
  simp at hz
  have hd:=(Prod.mk.inj hx).1
  have h8:=hsz _ _ hd
  simp only [lits,List.length_map,List.length_take,List.length_drop,reachBytes] at h8
  refine ⟨zs.take len,by simp;omega,by omega,fun hp=>?_⟩
  obtain ⟨b,off,spot⟩:=x
  have hc0:=hcell 0 (by omega)
  have hspot:spot=none:=by simpa [Addr.add] using World.cell?_spot hc0
  subst hspot
  refine ⟨b,off,rfl,block_lt hc0,fun i hi=>?_⟩
  have hci:=hcell i (by omega)
  have e:(zs.take len)[i]?.getD 0=zs.getD i 0:=by
   rw [List.getElem?_take,if_pos hi];rfl
  have ea:(⟨b,off,none⟩:Addr).add i=⟨b,off+i,none⟩:=by
   by_cases h0:i=0
   ·subst h0;simp [Addr.add]
   ·simp [Addr.add,h0]
  rw [e,<-ea]
  exact hci
end Go.Proofs.YtiiifecfdkjmbaaGreat
namespace Go.Proofs.YtiiifecfdkjmbaaGreat
open _root_.Go.Proofs.Tryz hiding checked
set_option maxRecDepth 8000
open Go.ChangeShapes Go.WideShapes Go.ChangeAt Go.RowKit Go.Deep
set_option linter.unusedVariables false
theorem Ii:prog.cellsOf 3=1:=by kernel_rfl
theorem Ij:prog.cellsOf 9=1:=by kernel_rfl
theorem sw {α:Type} {P:Nat->α->Prop}:∀ (n:Nat),(∀ i,i < n->∃ m,P i m)->∃ ms:List α,ms.length=n/\∀ i m,ms[i]? = some m->P i m
 | 0,_=>⟨[],rfl,fun i m h=>by simp at h⟩
 | n+1,h=>by
  obtain ⟨ms,hl,hp⟩:=sw n (fun i hi=>h i (by omega))
  obtain ⟨m,hm⟩:=h n (by omega)
  refine ⟨ms++[m],by simp [hl],fun i x hx=>?_⟩
  by_cases hi:i < ms.length
  ·exact hp i x (by rw [List.getElem?_append_left hi] at hx;exact hx)
  ·rw [List.getElem?_append_right (by omega)] at hx
   have hi2:i - ms.length=0:=by
    have:=(zQ2.1 hx).1
    simp at this;omega
   rw [hi2] at hx
   simp at hx
   obtain rfl:i=n:=by omega
   rw [<-hx];exact hm
open Pu
theorem Ih:prog.bytesOf 58=40:=by kernel_rfl
theorem BG:prog.cellsOf 58=4:=by kernel_rfl
def Mc (x:Ac):List Value:=[.int .i64 x.kind,.int .i64 x.one,.int .i64 x.two,.string x.body]
theorem BH {H:Type} {enc:TypeId × Value->H} {W:World} {base fuel:Nat} {spare:Nat->Bool} {held:Bool} {cs:List Value} {x:DataW H × List MemPlace}
  (h:DataW.trod enc prog W base spare held fuel 58 cs=some x):∃ m:Ac,cs=Mc m:=by
 obtain ⟨xs,n,_,_,hl,hlen,hf⟩:=DataW.trod_struct underlying58 h
 rw [BG] at hl
 match cs,hl with
 | [c0,c1,c2,c3],_ =>
  have g0:=hf 0 _ rfl
  have g1:=hf 1 _ rfl
  have g2:=hf 2 _ rfl
  have g3:=hf 3 _ rfl
  simp [Ii] at g0 g1 g2
  simp [Ij] at g3
  simp at hlen
  rw [zQ1 (by rw [hlen];omega)] at g0 g1 g2 g3
  obtain ⟨a0,e0,_⟩:=DataW.trod_int underlying3 g0
  obtain ⟨a1,e1,_⟩:=DataW.trod_int underlying3 g1
  obtain ⟨a2,e2,_⟩:=DataW.trod_int underlying3 g2
  obtain ⟨a3,e3,_⟩:=DataW.trod_string underlying9 g3
  simp at e0 e1 e2 e3
  exact ⟨⟨a0,a1,a2,a3⟩,by rw [e0,e1,e2,e3];rfl⟩
theorem Ah {H:Type} {enc:TypeId × Value->H} {W:World} {a:Option Addr} {len cap:Nat} {d:DataW H} {p:List MemPlace} (h:DataW.Trod enc prog W 0 (fun _=>true) true 50 (.slice a len cap) d p)
  (hsz:∀ el sp,d=.slice el sp->(el.length+sp.length)*40<=reachBytes):∃ ms,mQ W a len ms/\len<=cap:=by
 obtain ⟨fuel,hf⟩:=h
 rcases open_slice underlying50 hf with ⟨hcs,_⟩ | ⟨x,l,c,m,n,D,Pl,hcs,_,hl,hm,hmm,hx,hall⟩
 ·simp [Value.cells] at hcs
  obtain ⟨rfl,rfl,rfl⟩:=hcs
  exact ⟨[],⟨rfl,Nat.zero_le _,fun h=>absurd h (Nat.lt_irrefl _)⟩,Nat.le_refl _⟩
 ·simp [Value.cells] at hcs
  obtain ⟨rfl,rfl,rfl⟩:=hcs
  simp at hmm
  subst hmm
  have hd:=(Prod.mk.inj hx).1
  have h8:=hsz _ _ hd
  simp only [List.length_map,List.length_range,reachBytes] at h8
  have hmg:∀ i,i < len->∃ mg:Ac,∀ r u,(Mc mg)[r]? = some u->W.cell? ((x.add (i*4)).add r)=some u:=by
   intro i hi
   obtain ⟨cs',h1,h2⟩:=hall i (by omega)
   obtain ⟨mg,rfl⟩:=BH h2
   rw [BG] at h1
   refine ⟨mg,fun r u hr=>?_⟩
   have:=(World.cells?_some h1).2.2 r (by have:=(zQ2.1 hr).1;simpa [Mc] using this)
   rw [this];exact hr
  obtain ⟨ms,hl2,hms⟩:=sw len hmg
  refine ⟨ms,⟨hl2,by omega,fun hp=>?_⟩,hl⟩
  obtain ⟨b,off,spot⟩:=x
  obtain ⟨m0,hm0⟩:∃ m,ms[0]? = some m:=⟨_,zQ1 (by omega)⟩
  have hc0:=hms 0 m0 hm0 0 _ rfl
  simp [Addr.add] at hc0
  have hspot:spot=none:=by simpa using World.cell?_spot hc0
  subst hspot
  refine ⟨b,off,rfl,block_lt hc0,fun i y hy=>?_⟩
  have k0:=hms i y hy 0 _ rfl
  have k1:=hms i y hy 1 _ rfl
  have k2:=hms i y hy 2 _ rfl
  have k3:=hms i y hy 3 _ rfl
  rw [ou,ou] at k0 k1 k2 k3
  exact ⟨k0,k1,k2,k3⟩
end Go.Proofs.YtiiifecfdkjmbaaGreat
