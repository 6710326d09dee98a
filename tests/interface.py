"""The names and arguments that the document lists."""

# The arguments of each function, under the module under which the document lists it.
FUNCTIONS = {
    "undobystate.systems": {
        "is_system": ["value"],
        "is_state": ["system", "value"],
        "is_command": ["system", "value"],
        "is_sequence": ["system", "value"],
        "led_to": ["system", "state", "sequence"],
        "run": ["system", "state", "sequence"],
    },
    "undobystate.reach": {
        "reachable": ["system"],
        "first_sequence": ["system", "state", "target"],
        "reach_evidence": ["system", "state", "target"],
        "accepts_reach": ["system", "state", "target", "value"],
    },
    "undobystate.agreeing": {
        "agree": ["system", "first", "second", "state"],
        "difference": ["system", "first", "second"],
        "one_to_one": ["system"],
        "merged": ["system", "command"],
        "accepts_merged": ["system", "command", "value"],
        "inverse": ["system", "command"],
        "exchanged": ["system", "command", "other"],
    },
    "undobystate.actions": {
        "counterparts": ["system", "state", "command"],
        "is_revocable": ["system", "state", "command"],
        "told_table": ["system", "state", "command"],
        "passes_check": ["system", "state", "command", "value"],
        "told_refutation": ["system", "state", "command"],
        "refutes": ["system", "state", "command", "value"],
        "action_evidence": ["system", "state", "command"],
        "accepts_action": ["system", "state", "command", "value"],
    },
    "undobystate.notes": {
        "least_notes": ["system", "state", "command"],
        "told_rule": ["system", "state", "command"],
        "accepts_rule": ["system", "state", "command", "value"],
        "told_spread": ["system", "state", "command"],
        "accepts_spread": ["system", "state", "command", "many", "value"],
    },
    "undobystate.insertions": {
        "is_insertable": ["system", "state", "command"],
        "insertion_table": ["system", "state", "command"],
        "accepts_insertion": ["system", "state", "command", "value"],
        "insertion_refutation": ["system", "state", "command"],
        "refutes_insertion": ["system", "state", "command", "value"],
        "can_exchange": ["system", "state", "one", "other"],
    },
    "undobystate.groups": {
        "is_regular": ["system"],
        "failing": ["system"],
        "products": ["system"],
        "product": ["system", "one", "other"],
        "inverse": ["system", "state"],
        "factor": ["system", "sequence", "command"],
        "group_evidence": ["system"],
        "accepts_group": ["system", "value"],
    },
    "undobystate.forgetting": {
        "finest": ["system"],
        "quotient": ["system"],
        "accepts_blocks": ["system", "value"],
        "joins": ["system", "one", "other"],
        "accepts_joins": ["system", "one", "other", "value"],
    },
    "undobystate.effects": {
        "count_effects": ["system"],
        "first_sequences": ["system"],
        "have_same_effect": ["system", "one", "other"],
        "effect_system": ["system"],
    },
    "undobystate.extensions": {
        "least_states": ["system"],
        "accepts_extension": ["system", "value"],
        "accepts_apart": ["system", "value"],
        "remembering_evidence": ["system"],
        "accepts_remembering": ["system", "value"],
    },
    "undobystate.withdrawing": {
        "system_with": ["system", "chosen"],
        "is_enough": ["system", "chosen"],
        "maximal": ["system"],
        "fewest": ["system"],
        "maximal_evidence": ["system", "chosen"],
        "accepts_maximal": ["system", "chosen", "value"],
    },
    "undobystate.comparing": {
        "told_map": ["first", "second"],
        "accepts_map": ["first", "second", "value"],
        "told_split": ["first", "second"],
        "accepts_split": ["first", "second", "value"],
        "are_alike": ["first", "second"],
        "told_form": ["system"],
    },
    "undobystate.scanning": {
        "scan": ["text"],
    },
    "undobystate.reading": {
        "next_tokens": ["text", "kind"],
        "read_system": ["text"],
        "read_sequence": ["system", "text"],
    },
    "undobystate.writing": {
        "system_text": ["system"],
        "sequence_text": ["system", "sequence"],
    },
    "undobystate.journals": {
        "replayed": ["system", "journal"],
        "are_right": ["system", "records"],
    },
}

# The arguments with which an object of each class is made; the base class of the errors takes whatever Python's do.
CLASSES = {
    "undobystate.errors": {
        "UndoError": None,
        "BadValue": ["name"],
        "TooLarge": ["what"],
        "NotPossible": ["why"],
        "TextError": ["column", "words"],
    },
    "undobystate.editor": {
        "Editor": ["system"],
    },
}

# The methods of an editor.
METHODS = {
    "act": ["operation"],
    "undo": [],
    "state": [],
    "entries": [],
    "states": [],
    "journal": [],
    "without": ["entry"],
    "revocable": [],
    "table": ["entry"],
    "records": [],
    "twin": [],
}
