"""A store of tables kept in versions."""
