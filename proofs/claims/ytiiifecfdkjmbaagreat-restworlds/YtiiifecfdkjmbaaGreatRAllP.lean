/- Lemmas. Lemmas. -/
import Derived.Test.YtiiifecfdkjmbaaGreatAgX
namespace Go.Proofs.YtiiifecfdkjmbaaGreat
set_option maxRecDepth 8000
open Go.RowKit Go.Shelf
open Pu
set_option linter.unusedVariables false
set_option linter.unusedSimpArgs false
theorem Kl (m:Mg) (l:List Mg):(jI m l).isSome=l.any (dN m):=by
 unfold jI
 induction l with
 | nil=>rfl
 | cons y l ih =>
  rw [List.findIdx?_cons,List.any_cons,<-ih,lC y m]
  cases h:dN m y
  ·simp
  ·simp
theorem add_same {out:List Mg} {m:Mg} (h:out.any (dN m)=true):jm out m=.ok out:=by
 have e:(out.any fun x=>dN x m)=true:=by
  rw [<-h];congr 1;funext x;exact lC x m
 unfold jm;rw [if_pos e]
theorem Fh {out:List Mg} {m x:Mg} (h:out.any (dN m)=false) (hx:out[aO m out]? = some x):jm out m=if lessM m x then .ok (out.take (aO m out)++[m]++out.drop (aO m out)) else .error 1:=by
 have e:¬ (out.any fun x=>dN x m)=true:=by
  rw [show (fun x=>dN x m)=dN m from funext fun x=>lC x m,h];decide
 unfold jm;rw [if_neg e,hx]
theorem Ml {out:List Mg} {m:Mg} (h:out.any (dN m)=false) (hx:aO m out=out.length):jm out m=.ok (out.take (aO m out)++[m]++out.drop (aO m out)):=by
 have e:¬ (out.any fun x=>dN x m)=true:=by
  rw [show (fun x=>dN x m)=dN m from funext fun x=>lC x m,h];decide
 unfold jm;rw [if_neg e,hx,List.getElem?_eq_none (Nat.le_refl _)]
theorem xG {l out:List Mg} {m:Mg} (h:l.foldlM jm []=.ok out):(l++[m]).foldlM jm []=jm out m:=by
 rw [List.foldlM_append,h]
 show ([m].foldlM jm out:Except Int (List Mg))=jm out m
 rw [List.foldlM_cons]
 cases jm out m <;> rfl
theorem Od {out out':List Mg} {m:Mg} (h:jm out m=.ok out'):out'.length<=out.length+1:=by
 have e:∀ p,(out.take p++[m]++out.drop p).length<=out.length+1:=fun p=>by
  simp only [List.length_append,List.length_take,List.length_drop,List.length_singleton];omega
 unfold jm at h
 split at h
 ·cases h;omega
 ·split at h
  ·split at h
   ·cases h;exact e _
   ·cases h
  ·cases h;exact e _
theorem Fp:∀ (l out out':List Mg),l.foldlM jm out=.ok out'->out'.length<=out.length+l.length
 | [],out,out',h=>by cases h;simp
 | x::l,out,out',h=>by
  rw [List.foldlM_cons] at h
  cases ha:jm out x with
  | error e=>rw [ha] at h;cases h
  | ok o =>
   rw [ha] at h
   have h1:=Fp l o out' h
   have h2:=Od ha
   rw [List.length_cons];omega
def mM (d:Wd) (n k:Nat):List Mg:=(d.nodes.take n).flatMap Nd.told++(bC d n).take k
theorem zO (d:Wd) (n:Nat):mM d n 0=(d.nodes.take n).flatMap Nd.told:=by unfold mM;simp
theorem Mj {d:Wd} {n k:Nat} {x:Nd} {m:Mg} (hx:d.nodes[n]? = some x) (hm:x.told[k]? = some m):mM d n (k+1)=mM d n k++[m]:=by
 unfold mM;rw [oV hx,List.take_add_one,hm,<-List.append_assoc];rfl
theorem Fj {d:Wd} {n:Nat} {x:Nd} (hx:d.nodes[n]? = some x):mM d n x.told.length=mM d (n+1) 0:=by
 rw [zO]
 unfold mM;rw [oV hx,List.take_length,List.take_add_one,hx,List.flatMap_append];simp
theorem Oc (d:Wd):mM d d.nodes.length 0=vC d:=by
 rw [zO,List.take_length];rfl
theorem Km {d:Wd} {n k:Nat} {x:Nd} {m:Mg} (hx:d.nodes[n]? = some x) (hm:x.told[k]? = some m):∃ rest,vC d=mM d n k++m::rest:=by
 refine ⟨x.told.drop (k+1)++(d.nodes.drop (n+1)).flatMap Nd.told, ?_⟩
 have hn:=(zQ2.1 hx).1
 have hk:=(zQ2.1 hm).1
 have e1:d.nodes=d.nodes.take n++x::d.nodes.drop (n+1):=by
  have:=List.take_append_drop n d.nodes
  rw [List.drop_eq_getElem_cons hn,(zQ2.1 hx).2] at this
  exact this.symm
 have e2:x.told=x.told.take k++m::x.told.drop (k+1):=by
  have:=List.take_append_drop k x.told
  rw [List.drop_eq_getElem_cons hk,(zQ2.1 hm).2] at this
  exact this.symm
 unfold mM vC
 rw [oV hx]
 conv=>lhs;rw [e1]
 rw [List.flatMap_append,List.flatMap_cons]
 conv=>lhs;rw [e2]
 simp
theorem Mk {d:Wd} {n k:Nat} {x:Nd} {m:Mg} {out:List Mg} {e:Int} (hx:d.nodes[n]? = some x) (hm:x.told[k]? = some m) (hf:(mM d n k).foldlM jm []=.ok out) (ha:jm out m=.error e):oQ d=.error e:=by
 obtain ⟨rest,hr⟩:=Km hx hm
 unfold oQ
 rw [hr,List.foldlM_append,hf]
 show ((m::rest).foldlM jm out:Except Int (List Mg))=.error e
 rw [List.foldlM_cons,ha];rfl
theorem Jc {d:Wd} (hr:Right d) {n k:Nat} {x:Nd} (hx:d.nodes[n]? = some x) (hk:k<=x.told.length) {out:List Mg} (hf:(mM d n k).foldlM jm []=.ok out):out.length<=200:=by
 have h1:=Fp _ _ _ hf
 obtain ⟨_,h2,_,_⟩:=o9 hr.chk
 have h3:=hr.tJ n
 have hn:=(zQ2.1 hx).1
 have h4:∀ (l:List Nd),(∀ y∈l,y.told.length<=40)->(l.flatMap Nd.told).length<=40*l.length:=by
  intro l;induction l with
  | nil=>intro _;simp
  | cons y l ih =>
   intro h
   have:=ih (fun z hz=>h z (by simp [hz]))
   have h5:=h y (by simp)
   rw [List.flatMap_cons,List.length_append,List.length_cons];omega
 have h6:=h4 (d.nodes.take n) (fun y hy=>by
  obtain ⟨i,hi⟩:=List.mem_iff_getElem?.1 (List.mem_of_mem_take hy)
  have:=hr.tJ i
  rwa [oV hi] at this)
 unfold mM at h1
 simp only [List.length_append,List.length_take,List.length_nil] at h1 h6
 omega
end Go.Proofs.YtiiifecfdkjmbaaGreat
