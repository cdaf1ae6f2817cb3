"""Missing axioms: which hypotheses are sufficient for a subsumption of concepts."""
