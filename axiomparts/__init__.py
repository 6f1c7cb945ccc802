"""axiomparts: modules of axioms."""
