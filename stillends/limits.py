"""The limits for what is passed in, and for what is handed out."""

ROW_LIMIT = 60
TEXT_LIMIT = 1200
BUDGET_LIMIT = 60
TREE_LIMIT = 4000
BOOK_LIMIT = 60
CUSTOM_LIMIT = 400
NAME_LIMIT = 60
RULE_LIMIT = 400
STATE_LIMIT = 1000
# The most letters of the texts that are told of all texts of a task at once.
SHORT_LIMIT = 60
