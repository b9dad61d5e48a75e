"""Problems and their texts."""
